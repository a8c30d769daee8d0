import PyProof.Rows.All
import Wide.All
import OpenK.AllK
import Wide.FinOn
import Lean
import PyProof.EqAt
import PyProof.EqKinds
import PyProof.TupleCall
import PySem.Challenge.RW_rowbetween_k16_cases
set_option Elab.async false
set_option linter.all false
set_option maxRecDepth 100000
set_option maxHeartbeats 4000000
set_option Elab.async false
set_option linter.all false
set_option maxRecDepth 100000
def uA := @List.length_map
def uB := @List.mem_cons_of_mem
def uC := @List.mem_map
def uD := @Nat.le_trans
def uE := @PySem.Heap.get?_push_of_some
def uF := @List.mem_cons_self
def uG := @List.mem_cons
def uH := @List.mem_append_right
def uI := @List.mem_append_left
def uJ := @List.mem_append
def uK := @List.length_append
def uL := @List.getElem?_eq_some_iff
def uM := @List.length_cons
def uN := @List.getElem?_map
def uO := @List.mem_of_getElem?
def uP := @List.mem_singleton
def uQ := @List.map_append
def uR := @List.take_length
def uS := @List.length_replicate
def uT := @List.size_toArray
def uU := @List.getElem?_append_right
def uV := @List.getElem?_append_left
def uW := @PySem.Heap.get?_push_size
def uX := @List.length_take
def uY := @Bool.and_eq_true_iff
def uZ := @List.getElem?_eq_getElem
local macro_rules | `(tactic| walk_at "v3") => `(tactic| first | exact Or.inl rfl | exact Or.inr (Or.inl rfl) | exact Or.inr (Or.inr rfl))
local macro_rules | `(tactic| walk_at "v2") => `(tactic| first | exact Or.inl rfl | exact Or.inr rfl)
local macro_rules | `(tactic| walk_at "v1") => `(tactic| first | exact .inl rfl | exact .inr rfl | assumption)
namespace L2
open PySem
def ba (s:Stmt):Arguments:=match s with
 | .FunctionDef _ a _ _ _ _ _ _ _ _=>a
 | _=>{ posonlyargs:=[],args:=[],vararg:=none,kwonlyargs:=[],kw_defaults:=[],kwarg:=none,defaults:=[] }
def aM (s:Stmt):List Stmt:=match s with
 | .FunctionDef _ _ b _ _ _ _ _ _ _=>b
 | _=>[]
def ah (s:Stmt):Scope:=match s with
 | .FunctionDef _ _ _ _ _ _ sc _ _ _=>sc
 | _=>{ kind:=.function,names:=[],isGenerator:=false,isCoroutine:=false }
def iC (s:Stmt) (j:Nat):Stmt:=match s with
 | .ClassDef _ _ _ body _ _ _ _ _ _ _=>body.getD j (.Pass ⟨0,0,0,0⟩)
 | _=>.Pass ⟨0,0,0,0⟩
end L2
namespace DL
open PySem PySem.Spec PyProof.Rows L2
def txt (D:List (Str×Str)):List (Str×KTD.Dat):=D.map fun p=>(p.1,KTD.Dat.flat (.str p.2))
structure FdK (K:PySem.W.Frag) (x:Str) (st:Stmt):Prop where
 ex:∃ (f:Addr) (oc:Value) (od an:Option Addr) (sl:Array (Option Value)) (kV dc pm cd ct:Value),PySem.W.nsIn K mainGlobals x=some (some (.ref f))∧K.lookup f=some ⟨oc,od,.func (PySem.W.fnOf x x (ba st) (aM st) (ah st) .none kV dc pm an cd ct),sl⟩∧PySem.W.codeIn K cd x=true∧PySem.W.keepIn K (.ref f)=true
abbrev bmV:List Value:=[.type "ValueError",.type "Exception",.type "BaseException",.type "object"]
def gC (K:PySem.W.Frag) (N:Addr):Bool:=match K.lookup N with
 | some ⟨_,_,.dict es _,_⟩=>es.toList.all fun e=>match e.key with | .str _ _=>true | _=>false
 | _=>false
structure KCls (K:PySem.W.Frag) (C N:Addr) (mro:List Value):Prop where
 ex:∃ nm q bs sn sub ab col dd k0 k1 k2 k3 k5,K.lookup C=some (excClassObj nm q C N bs mro true sn sub ab col dd k0 k1 k2 k3 k5 "ValueError.__new__")
structure RcK (K:PySem.W.Frag) (xR:Str) (R NR:Addr):Prop where
 at_:PySem.W.nsIn K mainGlobals xR=some (some (.ref R))
 cl:KCls K R NR bmV
 ns:gC K NR=true
 ini:PySem.W.nsIn K NR "__init__"=some none
 sa:PySem.W.nsIn K NR "__setattr__"=some none
 kp:PySem.W.keepIn K (.ref R)=true
 sp:PySem.W.specialIn K (.ref R) "__getattribute__"=some (some (.builtin "type.__getattribute__"))
 rd:PySem.W.readsIn K R (.type "type")=true
 fc:PySem.W.findCls K (.ref R) (.type "type") "__init__"=some (.val (.builtin "ValueError.__init__"))
structure XcK (K:PySem.W.Frag) (x f:Str) (R NR:Addr) (q:Str) (st:Stmt):Prop where
 ex:∃ C N fI,PySem.W.nsIn K mainGlobals x=some (some (.ref C))∧KCls K C N (.ref R :: bmV)∧gC K N=true∧PySem.W.nsIn K N "__init__"=some (some (.ref fI))∧PySem.W.nsIn K N "__setattr__"=some none∧PySem.W.nsIn K N f=some none∧PySem.W.nsIn K NR f=some none ∧
  PySem.W.keepIn K (.ref C)=true∧∃ od kV dc pm an cd ct sl,K.lookup fI=some ⟨.type "function",od,.func (PySem.W.fnOf "__init__" q (ba st) (aM st) (ah st) .none kV dc pm an cd ct),sl⟩∧PySem.W.codeIn K cd q=true∧PySem.W.keepIn K (.ref fI)=true
def eY:List (Str×Str):=[("NoQuotient","top"),("NoName","name"),("TooMany","saying")]
def xgB (K:PySem.W.Frag) (C:Addr):Bool :=
 PySem.W.findIn K (.ref C) "__getattribute__" == some (some (.builtin "BaseException.__getattribute__")) && PySem.W.findIn K (.ref C) "__getattr__" == some none && PySem.W.mroIn K C (.type "BaseException") == some true && PySem.W.mroIn K C (.type "object") == some true && PySem.W.hasDictIn K C &&
 PySem.W.findIn K (.ref C) "__class__" == some (some (.builtin "object.__class__")) && PySem.W.specialIn K (.builtin "object.__class__") "__get__" == some (some (.builtin "getset_descriptor.__get__")) && PySem.W.takesIn K (.builtin "object.__class__") == some true
def excB (K:PySem.W.Frag):Bool:=eY.all fun p=>match PySem.W.nsIn K mainGlobals p.1 with
 | some (some (.ref C))=>xgB K C && PySem.W.findIn K (.ref C) p.2 == some none && PySem.W.kitOne K (.ref C) (.type "ValueError") == some true && PySem.W.kitOne K (.type "NoneType") (.ref C) == some false &&
  eY.all fun r=>match PySem.W.nsIn K mainGlobals r.1 with
   | some (some (.ref C'))=>PySem.W.kitOne K (.ref C) (.ref C') == some (p.1 == r.1)
   | _=>false
 | _=>false
structure ErF (K:PySem.W.Frag) (s1 s2 s3:Stmt):Prop where
 ex:∃ R NR,RcK K "RowError" R NR∧xgB K R=true∧PySem.W.kitOne K (.ref R) (.type "ValueError")=some true∧excB K=true∧XcK K "NoQuotient" "top" R NR "NoQuotient.__init__" s1∧XcK K "NoName" "name" R NR "NoName.__init__" s2∧XcK K "TooMany" "saying" R NR "TooMany.__init__" s3
end DL
namespace Lw
open PySem L2 DL
def top (i:Nat):Stmt:=PySem.Challenge.pw_rowbetween_k16_cases.main.body.getD i (.Pass ⟨0,0,0,0⟩)
abbrev s__law_purse:Stmt:=top 18
abbrev s__law_take:Stmt:=top 19
abbrev s__law_weight:Stmt:=top 20
abbrev s__law_names:Stmt:=top 21
abbrev s__law_row:Stmt:=top 22
abbrev s_is_row:Stmt:=top 9
abbrev s__law_cell:Stmt:=top 17
abbrev s__law_wild:Stmt:=top 23
abbrev s_contrary:Stmt:=top 10
abbrev s_plain_part:Stmt:=top 11
abbrev s_plain:Stmt:=top 12
abbrev s_put_together:Stmt:=top 13
abbrev s_cases_within:Stmt:=top 14
abbrev s_cases:Stmt:=top 15
abbrev s__law_joined:Stmt:=top 24
abbrev s__law_fits:Stmt:=top 25
abbrev s__law_grown:Stmt:=top 26
abbrev s__law_saying:Stmt:=top 27
abbrev s__law_counts:Stmt:=top 28
abbrev s__law_turned:Stmt:=top 29
abbrev s__law_cases:Stmt:=top 30
abbrev s__law_caught:Stmt:=top 31
abbrev s__law_good:Stmt:=top 32
abbrev s_law:Stmt:=top 33
abbrev i_NoQuotient:Stmt:=iC (top 2) 0
abbrev i_NoName:Stmt:=iC (top 3) 0
abbrev i_TooMany:Stmt:=iC (top 4) 0
end Lw
namespace Hd
open PySem PySem.W PyProof.Rows
set_option maxRecDepth 100000
set_option maxHeartbeats 0
def kept (i:Nat):Stmt:=PySem.Challenge.pw_rowbetween_k16_cases.main.body.getD i (.Pass ⟨0,0,0,0⟩)
def vw:Program:={ PySem.Challenge.pw_rowbetween_k16_cases with main:={ PySem.Challenge.pw_rowbetween_k16_cases.main with body:=[kept 1,kept 2,kept 3,kept 4,kept 6,kept 7,kept 8,kept 9,kept 10,kept 11,kept 12,kept 13,kept 14,kept 15,kept 17,kept 18,kept 19,kept 20,kept 21,kept 22,kept 23,kept 24,kept 25,kept 26,kept 27,kept 28,kept 29,kept 30,kept 31,kept 32,kept 33] } }
def xt (s:Shared):Bool:=xlAt vw [] s && recOk (RowW.records (OpenRow.toRowW PySem.Challenge.rw_rowbetween_k16_cases.row)) s
noncomputable def st0 (w:World) (os:OsState):Shared:=⟨boot_heap w.params,#[],boot_drawn,boot_toks,os⟩
noncomputable def rn (w:World) (os:OsState):=(topRun treeTable PySem.Challenge.pw_rowbetween_k16_cases w 11 (some (Value.ref 6)) 3644 (st0 w os) (topStub PySem.Challenge.pw_rowbetween_k16_cases))
theorem said:PySem.W.OpenLaw.wellSaid PySem.Challenge.rw_rowbetween_k16_cases=true:=by
 rw [PySem.W.Fast.te9446332074065402090]
 kernel_rfl
local macro_rules | `(tactic| walk_at "hf") => `(tactic| (unfold Hd.rn Hd.st0; (try rw [PySem.W.Fast.te14082659384304107361]); (try rw [PySem.W.Fast.te14364793385576792824]); (try rw [PySem.W.Fast.te5160383126252970620]); (try rw [PySem.W.Fast.te10880121769531294198]); (try rw [PySem.W.Fast.te14722251495701143533]); (try rw [PySem.W.Fast.te10994771534591457954]); (try rw [PySem.W.Fast.te479339242167458305]); (try rw [PySem.W.Fast.te16090120013241838585]); (try rw [PySem.W.Fast.te2386780881361962483]); (try rw [PySem.W.Fast.te11698064438423848299]); (try rw [PySem.W.Fast.te7317090234206586261]); (try rw [PySem.W.Fast.te7369524293546568484]); (try rw [PySem.W.Fast.te821141287760084731]); (try rw [PySem.W.Fast.te3399658132070893891]); (try rw [PySem.W.Fast.te7409074990110511671]); (try rw [PySem.W.Fast.te13664370479719496447]); (try rw [PySem.W.Fast.te5991557255702980513]); (try rw [PySem.W.Fast.te3247288618530077131]); (try rw [PySem.W.Fast.te5923862056798008813]); kernel_rfl))
theorem pair {σ α β:Type} {o:Option σ} {f:σ→α} {g:σ→β} {x:α} {y:β} (a:o.map f=some x) (b:o.map g=some y):o.map (fun s=>(f s,g s))=some (x,y):=by
 cases o with
 | none=>cases a
 | some s=>cases a;cases b;rfl
theorem pFst {σ α β:Type} {o:Option σ} {f:σ→α} {g:σ→β} {x:α} {y:β} (a:o.map (fun s=>(f s,g s))=some (x,y)):o.map f=some x:=by
 cases o with
 | none=>cases a
 | some s=>cases a;rfl
theorem pSnd {σ α β:Type} {o:Option σ} {f:σ→α} {g:σ→β} {x:α} {y:β} (a:o.map (fun s=>(f s,g s))=some (x,y)):o.map g=some y:=by
 cases o with
 | none=>cases a
 | some s=>cases a;rfl
theorem left {α:Type} {Yf:Shared→α} {Ya:World→α} (go:∀ (w:World) (os:OsState),(rn w os).map (fun s=>(staticsOk (importedModules PySem.Challenge.pw_rowbetween_k16_cases.main.body) (boot_heap w.params) s.heap && namesBound PySem.Challenge.pw_rowbetween_k16_cases s.heap && gensDone s && laidKept (boot_heap w.params) s.heap,openSeen vw ["OPPOSITES"] (importedModules PySem.Challenge.pw_rowbetween_k16_cases.main.body) xt true s,Yf s))=some (true,openGood vw ["OPPOSITES"],Ya w)):LeftO PySem.Challenge.pw_rowbetween_k16_cases vw ["OPPOSITES"] xt Yf Ya 3644 true:=fun w=>by
 obtain ⟨⟨h,gs,d,k,os⟩,e1,e2⟩:=Option.map_eq_some_iff.mp (boot_open (p:=PySem.Challenge.pw_rowbetween_k16_cases) (N:=3644) (by kernel_rfl) (by decide) (fun s=>rfl) w)
 obtain ⟨rfl,rfl,rfl,rfl⟩:h=boot_heap w.params∧gs=#[]∧d=boot_drawn∧k=boot_toks:=by simpa using e2
 have size:((boot_heap w.params).isNs mainGlobals,(boot_heap w.params).objs.size,(boot_heap w.params).nsMap mainGlobals "__annotations__")=(true,11,some (Value.ref 6)):=by kernel_rfl
 simp only [Prod.mk.injEq] at size
 obtain ⟨z1,z2,z3⟩:=size
 obtain ⟨s,r1,r2⟩:=Option.map_eq_some_iff.mp (go w os)
 simp only [Prod.mk.injEq] at r2
 obtain ⟨l1,l2,l3⟩:=r2
 unfold openEnds
 rw [e1]
 show (topFrom treeTable PySem.Challenge.pw_rowbetween_k16_cases w 3644 (st0 w os)).map _=_
 have t:topFrom treeTable PySem.Challenge.pw_rowbetween_k16_cases w 3644 (st0 w os)=some s:=by
  unfold topFrom
  rw [show (st0 w os).heap=boot_heap w.params from rfl,z1,z2,z3]
  unfold rn at r1
  rw [r1]
  show (match _ && _ && _ && _ with | true=>_ | false=>_)=_
  rw [l1]
 rw [t]
 exact congrArg some (Prod.ext (by exact l2) (by exact l3))
theorem twoRows {α:Type} {Yf:Shared→α} {Ya:World→α} (row:String) (a:∀ (w:World) (os:OsState),(rn (w.withFollow row false) os).map (fun s=>(staticsOk (importedModules PySem.Challenge.pw_rowbetween_k16_cases.main.body) (boot_heap (w.withFollow row false).params) s.heap && namesBound PySem.Challenge.pw_rowbetween_k16_cases s.heap && gensDone s && laidKept (boot_heap (w.withFollow row false).params) s.heap,openSeen vw ["OPPOSITES"] (importedModules PySem.Challenge.pw_rowbetween_k16_cases.main.body) xt true s,Yf s))=some (true,openGood vw ["OPPOSITES"],Ya (w.withFollow row false))) (b:∀ (w:World) (os:OsState),(rn (w.withFollow row true) os).map (fun s=>(staticsOk (importedModules PySem.Challenge.pw_rowbetween_k16_cases.main.body) (boot_heap (w.withFollow row true).params) s.heap && namesBound PySem.Challenge.pw_rowbetween_k16_cases s.heap && gensDone s && laidKept (boot_heap (w.withFollow row true).params) s.heap,openSeen vw ["OPPOSITES"] (importedModules PySem.Challenge.pw_rowbetween_k16_cases.main.body) xt true s,Yf s))=some (true,openGood vw ["OPPOSITES"],Ya (w.withFollow row true))):∀ (w:World) (os:OsState),(rn w os).map (fun s=>(staticsOk (importedModules PySem.Challenge.pw_rowbetween_k16_cases.main.body) (boot_heap w.params) s.heap && namesBound PySem.Challenge.pw_rowbetween_k16_cases s.heap && gensDone s && laidKept (boot_heap w.params) s.heap,openSeen vw ["OPPOSITES"] (importedModules PySem.Challenge.pw_rowbetween_k16_cases.main.body) xt true s,Yf s))=some (true,openGood vw ["OPPOSITES"],Ya w) :=
 byRow2 row (P:=fun w=>∀ os:OsState,(rn w os).map (fun s=>(staticsOk (importedModules PySem.Challenge.pw_rowbetween_k16_cases.main.body) (boot_heap w.params) s.heap && namesBound PySem.Challenge.pw_rowbetween_k16_cases s.heap && gensDone s && laidKept (boot_heap w.params) s.heap,openSeen vw ["OPPOSITES"] (importedModules PySem.Challenge.pw_rowbetween_k16_cases.main.body) xt true s,Yf s))=some (true,openGood vw ["OPPOSITES"],Ya w)) a b
theorem jk (w:World) (os:OsState):(rn (w.withFollow "special-get-raises" false) os).map (fun s=>(staticsOk (importedModules PySem.Challenge.pw_rowbetween_k16_cases.main.body) (boot_heap (w.withFollow "special-get-raises" false).params) s.heap && namesBound PySem.Challenge.pw_rowbetween_k16_cases s.heap && gensDone s && laidKept (boot_heap (w.withFollow "special-get-raises" false).params) s.heap,seen ((recsOf vw).map (·.name)) (ownsOf vw) [] { s with gens:=#[] },s.heap.bltView,s.heap.keysOk (looseW vw ["OPPOSITES"]) ((recsOf vw).map (·.name)) ((litsOf vw).map (·.1)) ((clssOf vw (looseW vw ["OPPOSITES"])).map (·.name)) && s.heap.accountedOkI (importedModules PySem.Challenge.pw_rowbetween_k16_cases.main.body) && s.heap.isNs mainGlobals && s.heap.isNs builtinsNs && tablesOk vw s.heap && xt s && (if true then s.gens.size == 0 else !leftWithCleanup s.gens)))=some ((true),(expectedOf vw),(bltViewBooted),(true)):=by
 (refine pair ?_ (pair ?_ (pair ?_ ?_)));(focus (walk_at "hf"));(focus (walk_at "hf"));(focus (walk_at "hf"));(focus (walk_at "hf"))
theorem oe (w:World) (os:OsState):(rn (w.withFollow "special-get-raises" false) os).map (fun s=>staticsOk (importedModules PySem.Challenge.pw_rowbetween_k16_cases.main.body) (boot_heap (w.withFollow "special-get-raises" false).params) s.heap && namesBound PySem.Challenge.pw_rowbetween_k16_cases s.heap && gensDone s && laidKept (boot_heap (w.withFollow "special-get-raises" false).params) s.heap)=some (true):=(pFst (jk w os))
theorem qm (w:World) (os:OsState):(rn (w.withFollow "special-get-raises" false) os).map (fun s=>seen ((recsOf vw).map (·.name)) (ownsOf vw) [] { s with gens:=#[] })=some (expectedOf vw):=(pFst (pSnd (jk w os)))
theorem oB (w:World) (os:OsState):(rn (w.withFollow "special-get-raises" false) os).map (fun s=>s.heap.bltView)=some (bltViewBooted):=(pFst (pSnd (pSnd (jk w os))))
theorem pK (w:World) (os:OsState):(rn (w.withFollow "special-get-raises" false) os).map (fun s=>s.heap.keysOk (looseW vw ["OPPOSITES"]) ((recsOf vw).map (·.name)) ((litsOf vw).map (·.1)) ((clssOf vw (looseW vw ["OPPOSITES"])).map (·.name)) && s.heap.accountedOkI (importedModules PySem.Challenge.pw_rowbetween_k16_cases.main.body) && s.heap.isNs mainGlobals && s.heap.isNs builtinsNs && tablesOk vw s.heap && xt s && (if true then s.gens.size == 0 else !leftWithCleanup s.gens))=some (true):=(pSnd (pSnd (pSnd (jk w os))))
theorem kd (w:World) (os:OsState):(rn (w.withFollow "special-get-raises" false) os).map (fun s=>(tabsOk vw s,pinSeenD vw (drecsOf vw) s,plainSeenE vw (looseW vw ["OPPOSITES"]) s))=some ((true),(pinGoodD (drecsOf vw)),(plainGoodE vw (looseW vw ["OPPOSITES"]))):=by
 (refine pair ?_ (pair ?_ ?_));(focus (walk_at "hf"));(focus (walk_at "hf"));(focus (walk_at "hf"))
theorem pO (w:World) (os:OsState):(rn (w.withFollow "special-get-raises" false) os).map (fun s=>tabsOk vw s)=some (true):=(pFst (kd w os))
theorem o7 (w:World) (os:OsState):(rn (w.withFollow "special-get-raises" false) os).map (fun s=>pinSeenD vw (drecsOf vw) s)=some (pinGoodD (drecsOf vw)):=(pFst (pSnd (kd w os)))
theorem pV (w:World) (os:OsState):(rn (w.withFollow "special-get-raises" false) os).map (fun s=>plainSeenE vw (looseW vw ["OPPOSITES"]) s)=some (plainGoodE vw (looseW vw ["OPPOSITES"])):=(pSnd (pSnd (kd w os)))
theorem lH (w:World) (os:OsState):(rn (w.withFollow "special-get-raises" false) os).map (fun s=>(plainSeenD vw ["OPPOSITES"] s,wideSeen vw s,clsSeenW vw ["OPPOSITES"] s))=some ((plainGoodD vw ["OPPOSITES"]),(wideGood vw),(clsGoodW vw ["OPPOSITES"])):=by
 (refine pair ?_ (pair ?_ ?_));(focus (walk_at "hf"));(focus (walk_at "hf"));(focus (walk_at "hf"))
theorem qo (w:World) (os:OsState):(rn (w.withFollow "special-get-raises" false) os).map (fun s=>plainSeenD vw ["OPPOSITES"] s)=some (plainGoodD vw ["OPPOSITES"]):=(pFst (lH w os))
theorem qx (w:World) (os:OsState):(rn (w.withFollow "special-get-raises" false) os).map (fun s=>wideSeen vw s)=some (wideGood vw):=(pFst (pSnd (lH w os)))
theorem o0 (w:World) (os:OsState):(rn (w.withFollow "special-get-raises" false) os).map (fun s=>clsSeenW vw ["OPPOSITES"] s)=some (clsGoodW vw ["OPPOSITES"]):=(pSnd (pSnd (lH w os)))
theorem pz (w:World) (os:OsState):(rn (w.withFollow "special-get-raises" false) os).map (fun s=>openSeen vw ["OPPOSITES"] (importedModules PySem.Challenge.pw_rowbetween_k16_cases.main.body) xt true s)=some (openGood vw ["OPPOSITES"]):=(pair (qm w os) (pair (oB w os) (pair (pK w os) (pair (pO w os) (pair (o7 w os) (pair (pV w os) (pair (qo w os) (pair (qx w os) (o0 w os)))))))))
theorem all_a {α:Type} {Yf:Shared→α} {Ya:World→α} (h:∀ (w:World) (os:OsState),(rn (w.withFollow "special-get-raises" false) os).map (fun s=>Yf s)=some (Ya (w.withFollow "special-get-raises" false))) (w:World) (os:OsState) :
  (rn (w.withFollow "special-get-raises" false) os).map (fun s=>(staticsOk (importedModules PySem.Challenge.pw_rowbetween_k16_cases.main.body) (boot_heap (w.withFollow "special-get-raises" false).params) s.heap && namesBound PySem.Challenge.pw_rowbetween_k16_cases s.heap && gensDone s && laidKept (boot_heap (w.withFollow "special-get-raises" false).params) s.heap,openSeen vw ["OPPOSITES"] (importedModules PySem.Challenge.pw_rowbetween_k16_cases.main.body) xt true s,Yf s))=some (true,openGood vw ["OPPOSITES"],Ya (w.withFollow "special-get-raises" false)):=pair (oe w os) (pair (pz w os) (h w os))
theorem iW (w:World) (os:OsState):(rn (w.withFollow "special-get-raises" true) os).map (fun s=>(staticsOk (importedModules PySem.Challenge.pw_rowbetween_k16_cases.main.body) (boot_heap (w.withFollow "special-get-raises" true).params) s.heap && namesBound PySem.Challenge.pw_rowbetween_k16_cases s.heap && gensDone s && laidKept (boot_heap (w.withFollow "special-get-raises" true).params) s.heap,seen ((recsOf vw).map (·.name)) (ownsOf vw) [] { s with gens:=#[] },s.heap.bltView,s.heap.keysOk (looseW vw ["OPPOSITES"]) ((recsOf vw).map (·.name)) ((litsOf vw).map (·.1)) ((clssOf vw (looseW vw ["OPPOSITES"])).map (·.name)) && s.heap.accountedOkI (importedModules PySem.Challenge.pw_rowbetween_k16_cases.main.body) && s.heap.isNs mainGlobals && s.heap.isNs builtinsNs && tablesOk vw s.heap && xt s && (if true then s.gens.size == 0 else !leftWithCleanup s.gens)))=some ((true),(expectedOf vw),(bltViewBooted),(true)):=by
 (refine pair ?_ (pair ?_ (pair ?_ ?_)));(focus (walk_at "hf"));(focus (walk_at "hf"));(focus (walk_at "hf"));(focus (walk_at "hf"))
theorem pI (w:World) (os:OsState):(rn (w.withFollow "special-get-raises" true) os).map (fun s=>staticsOk (importedModules PySem.Challenge.pw_rowbetween_k16_cases.main.body) (boot_heap (w.withFollow "special-get-raises" true).params) s.heap && namesBound PySem.Challenge.pw_rowbetween_k16_cases s.heap && gensDone s && laidKept (boot_heap (w.withFollow "special-get-raises" true).params) s.heap)=some (true):=(pFst (iW w os))
theorem qw (w:World) (os:OsState):(rn (w.withFollow "special-get-raises" true) os).map (fun s=>seen ((recsOf vw).map (·.name)) (ownsOf vw) [] { s with gens:=#[] })=some (expectedOf vw):=(pFst (pSnd (iW w os)))
theorem oY (w:World) (os:OsState):(rn (w.withFollow "special-get-raises" true) os).map (fun s=>s.heap.bltView)=some (bltViewBooted):=(pFst (pSnd (pSnd (iW w os))))
theorem oR (w:World) (os:OsState):(rn (w.withFollow "special-get-raises" true) os).map (fun s=>s.heap.keysOk (looseW vw ["OPPOSITES"]) ((recsOf vw).map (·.name)) ((litsOf vw).map (·.1)) ((clssOf vw (looseW vw ["OPPOSITES"])).map (·.name)) && s.heap.accountedOkI (importedModules PySem.Challenge.pw_rowbetween_k16_cases.main.body) && s.heap.isNs mainGlobals && s.heap.isNs builtinsNs && tablesOk vw s.heap && xt s && (if true then s.gens.size == 0 else !leftWithCleanup s.gens))=some (true):=(pSnd (pSnd (pSnd (iW w os))))
theorem lf (w:World) (os:OsState):(rn (w.withFollow "special-get-raises" true) os).map (fun s=>(tabsOk vw s,pinSeenD vw (drecsOf vw) s,plainSeenE vw (looseW vw ["OPPOSITES"]) s))=some ((true),(pinGoodD (drecsOf vw)),(plainGoodE vw (looseW vw ["OPPOSITES"]))):=by
 (refine pair ?_ (pair ?_ ?_));(focus (walk_at "hf"));(focus (walk_at "hf"));(focus (walk_at "hf"))
theorem oA (w:World) (os:OsState):(rn (w.withFollow "special-get-raises" true) os).map (fun s=>tabsOk vw s)=some (true):=(pFst (lf w os))
theorem pS (w:World) (os:OsState):(rn (w.withFollow "special-get-raises" true) os).map (fun s=>pinSeenD vw (drecsOf vw) s)=some (pinGoodD (drecsOf vw)):=(pFst (pSnd (lf w os)))
theorem pv (w:World) (os:OsState):(rn (w.withFollow "special-get-raises" true) os).map (fun s=>plainSeenE vw (looseW vw ["OPPOSITES"]) s)=some (plainGoodE vw (looseW vw ["OPPOSITES"])):=(pSnd (pSnd (lf w os)))
theorem kN (w:World) (os:OsState):(rn (w.withFollow "special-get-raises" true) os).map (fun s=>(plainSeenD vw ["OPPOSITES"] s,wideSeen vw s,clsSeenW vw ["OPPOSITES"] s))=some ((plainGoodD vw ["OPPOSITES"]),(wideGood vw),(clsGoodW vw ["OPPOSITES"])):=by
 (refine pair ?_ (pair ?_ ?_));(focus (walk_at "hf"));(focus (walk_at "hf"));(focus (walk_at "hf"))
theorem oN (w:World) (os:OsState):(rn (w.withFollow "special-get-raises" true) os).map (fun s=>plainSeenD vw ["OPPOSITES"] s)=some (plainGoodD vw ["OPPOSITES"]):=(pFst (kN w os))
theorem og (w:World) (os:OsState):(rn (w.withFollow "special-get-raises" true) os).map (fun s=>wideSeen vw s)=some (wideGood vw):=(pFst (pSnd (kN w os)))
theorem qu (w:World) (os:OsState):(rn (w.withFollow "special-get-raises" true) os).map (fun s=>clsSeenW vw ["OPPOSITES"] s)=some (clsGoodW vw ["OPPOSITES"]):=(pSnd (pSnd (kN w os)))
theorem nZ (w:World) (os:OsState):(rn (w.withFollow "special-get-raises" true) os).map (fun s=>openSeen vw ["OPPOSITES"] (importedModules PySem.Challenge.pw_rowbetween_k16_cases.main.body) xt true s)=some (openGood vw ["OPPOSITES"]):=(pair (qw w os) (pair (oY w os) (pair (oR w os) (pair (oA w os) (pair (pS w os) (pair (pv w os) (pair (oN w os) (pair (og w os) (qu w os)))))))))
theorem all_b {α:Type} {Yf:Shared→α} {Ya:World→α} (h:∀ (w:World) (os:OsState),(rn (w.withFollow "special-get-raises" true) os).map (fun s=>Yf s)=some (Ya (w.withFollow "special-get-raises" true))) (w:World) (os:OsState) :
  (rn (w.withFollow "special-get-raises" true) os).map (fun s=>(staticsOk (importedModules PySem.Challenge.pw_rowbetween_k16_cases.main.body) (boot_heap (w.withFollow "special-get-raises" true).params) s.heap && namesBound PySem.Challenge.pw_rowbetween_k16_cases s.heap && gensDone s && laidKept (boot_heap (w.withFollow "special-get-raises" true).params) s.heap,openSeen vw ["OPPOSITES"] (importedModules PySem.Challenge.pw_rowbetween_k16_cases.main.body) xt true s,Yf s))=some (true,openGood vw ["OPPOSITES"],Ya (w.withFollow "special-get-raises" true)):=pair (pI w os) (pair (nZ w os) (h w os))
end Hd
structure Hd.Facts (K:PySem.W.Frag):Prop where
 q0:DL.FdK K "_law_purse" Lw.s__law_purse
 q1:DL.FdK K "_law_take" Lw.s__law_take
 q2:DL.FdK K "_law_weight" Lw.s__law_weight
 q3:DL.FdK K "_law_names" Lw.s__law_names
 q4:DL.FdK K "_law_row" Lw.s__law_row
 q5:DL.FdK K "is_row" Lw.s_is_row
 q6:DL.FdK K "_law_cell" Lw.s__law_cell
 q7:DL.FdK K "_law_wild" Lw.s__law_wild
 q8:DL.FdK K "contrary" Lw.s_contrary
 q9:DL.FdK K "plain_part" Lw.s_plain_part
 q10:DL.FdK K "plain" Lw.s_plain
 q11:DL.FdK K "put_together" Lw.s_put_together
 q12:DL.FdK K "cases_within" Lw.s_cases_within
 q13:DL.FdK K "cases" Lw.s_cases
 q14:DL.FdK K "_law_joined" Lw.s__law_joined
 q15:DL.FdK K "_law_fits" Lw.s__law_fits
 q16:DL.FdK K "_law_grown" Lw.s__law_grown
 q17:DL.FdK K "_law_saying" Lw.s__law_saying
 q18:DL.FdK K "_law_counts" Lw.s__law_counts
 q19:DL.FdK K "_law_turned" Lw.s__law_turned
 q20:DL.FdK K "_law_cases" Lw.s__law_cases
 q21:DL.FdK K "_law_caught" Lw.s__law_caught
 q22:DL.FdK K "_law_good" Lw.s__law_good
 q23:DL.FdK K "law" Lw.s_law
 z0:PySem.W.nsIn K PySem.mainGlobals "range"=some none
 z1:PySem.W.nsIn K PySem.mainGlobals "abs"=some none
 z2:PySem.W.nsIn K PySem.mainGlobals "int"=some none
 z3:PySem.W.nsIn K PySem.mainGlobals "sorted"=some none
 z4:PySem.W.nsIn K PySem.mainGlobals "tuple"=some none
 z5:PySem.W.nsIn K PySem.mainGlobals "len"=some none
 z6:PySem.W.nsIn K PySem.mainGlobals "max"=some none
 z7:PySem.W.nsIn K PySem.mainGlobals "isinstance"=some none
 z8:PySem.W.nsIn K PySem.mainGlobals "ValueError"=some none
 z9:PySem.W.nsIn K PySem.mainGlobals "list"=some none
 ef:DL.ErF K Lw.i_NoQuotient Lw.i_NoName Lw.i_TooMany
 g_OPPOSITES:∃ ga:PySem.Addr,PySem.W.nsIn K PySem.mainGlobals "OPPOSITES"=some (some (.ref ga))∧PyProof.Rows.KTD.tabLook (PyProof.Rows.KTD.datLooks fun b=>K.lookup b) (fun b=>K.lookup b) ga (DL.txt [("least","more"),("more","least"),("both","either"),("either","both")])=true
 g_MOST_ROWS:∃ ga:PySem.Tok,PySem.W.nsIn K PySem.mainGlobals "MOST_ROWS"=some (some (.int 3 ga))
 g_MOST_CASES:∃ ga:PySem.Tok,PySem.W.nsIn K PySem.mainGlobals "MOST_CASES"=some (some (.int 4 ga))
section
open PySem PySem.W PyProof.Rows
local macro_rules | `(tactic| o_head $H) => `(tactic| (
 refine PySem.W.holds_open (r:=PySem.Challenge.rw_rowbetween_k16_cases.row) (q:=Hd.vw) (loose:=["OPPOSITES"]) (Xt:=Hd.xt)
  (XP:=PySem.W.XL Hd.vw []) (Yf:=PySem.W.Hook.obs $H) (Ya:=PySem.W.Hook.val $H) (YP:=PySem.W.Hook.says $H) (N:=3644)
  ?_ (PySem.W.Hook.of $H) (PySem.W.Hook.keeps $H) (fun s e=>PySem.W.xl_of s (uY.mp e).1)
  PySem.W.XL.keeps (by rfl) (by rfl) (by rfl) (fun s e=>PySem.W.recFacts_of (uY.mp e).2)
  (by rfl) (by first | assumption | decide +kernel) (by decide +kernel) ⟨rfl,rfl,rfl,rfl,rfl,by decide +kernel⟩ ?_ ?_
 (focus (refine Hd.left ?_;refine Hd.twoRows "special-get-raises" (Hd.all_a ?_) (Hd.all_b ?_);(focus (intro w os;unfold Hd.rn Hd.st0;(try rw [PySem.W.Fast.te14082659384304107361]);(try rw [PySem.W.Fast.te14364793385576792824]);(try rw [PySem.W.Fast.te5160383126252970620]);(try rw [PySem.W.Fast.te10880121769531294198]);(try rw [PySem.W.Fast.te14722251495701143533]);(try rw [PySem.W.Fast.te10994771534591457954]);(try rw [PySem.W.Fast.te479339242167458305]);(try rw [PySem.W.Fast.te16090120013241838585]);(try rw [PySem.W.Fast.te2386780881361962483]);(try rw [PySem.W.Fast.te11698064438423848299]);(try rw [PySem.W.Fast.te7317090234206586261]);(try rw [PySem.W.Fast.te7369524293546568484]);(try rw [PySem.W.Fast.te821141287760084731]);(try rw [PySem.W.Fast.te3399658132070893891]);(try rw [PySem.W.Fast.te7409074990110511671]);(try rw [PySem.W.Fast.te13664370479719496447]);(try rw [PySem.W.Fast.te5991557255702980513]);(try rw [PySem.W.Fast.te3247288618530077131]);(try rw [PySem.W.Fast.te5923862056798008813]);kernel_rfl));(focus (intro w os;unfold Hd.rn Hd.st0;(try rw [PySem.W.Fast.te14082659384304107361]);(try rw [PySem.W.Fast.te14364793385576792824]);(try rw [PySem.W.Fast.te5160383126252970620]);(try rw [PySem.W.Fast.te10880121769531294198]);(try rw [PySem.W.Fast.te14722251495701143533]);(try rw [PySem.W.Fast.te10994771534591457954]);(try rw [PySem.W.Fast.te479339242167458305]);(try rw [PySem.W.Fast.te16090120013241838585]);(try rw [PySem.W.Fast.te2386780881361962483]);(try rw [PySem.W.Fast.te11698064438423848299]);(try rw [PySem.W.Fast.te7317090234206586261]);(try rw [PySem.W.Fast.te7369524293546568484]);(try rw [PySem.W.Fast.te821141287760084731]);(try rw [PySem.W.Fast.te3399658132070893891]);(try rw [PySem.W.Fast.te7409074990110511671]);(try rw [PySem.W.Fast.te13664370479719496447]);(try rw [PySem.W.Fast.te5991557255702980513]);(try rw [PySem.W.Fast.te3247288618530077131]);(try rw [PySem.W.Fast.te5923862056798008813]);kernel_rfl))))
 (focus w_witness2)))
set_option maxRecDepth 100000 in
set_option maxHeartbeats 0 in
theorem Hd.half (F:∀ (YP:World→Heap→Prop) (d:DefRec) (K:Params→PySem.W.Frag),(∀ (w:World) (h:Heap),YP w h→(K w.params).In h)→d.params.defaults=[]→d.name="law"→(∀ w:World,Hd.Facts (K w.params))→PySem.W.WalkO Hd.vw ["OPPOSITES"] (PySem.W.XL Hd.vw []) YP PySem.Challenge.rw_rowbetween_k16_cases.row.toRowW d [] (fun f vs=>PySem.call f vs)):PySem.Challenge.rw_rowbetween_k16_cases.Holds:=by
 w_on;refine PySem.W.holds_law Hd.said fun said=>?_;k_head
 k_fill
 refine F _ _ _ (fun w h Y=>PySem.W.kIn_of Y) rfl rfl fun w=>?_
 refine' ⟨?_,?_,?_,?_,?_,?_,?_,?_,?_,?_,?_,?_,?_,?_,?_,?_,?_,?_,?_,?_,?_,?_,?_,?_,?_,?_,?_,?_,?_,?_,?_,?_,?_,?_,?_,?_,?_,?_⟩
 ·exact⟨⟨_,_,_,_,_,_,_,_,_,_,by k_is,by k_is,by k_is,by k_is⟩⟩
 ·exact⟨⟨_,_,_,_,_,_,_,_,_,_,by k_is,by k_is,by k_is,by k_is⟩⟩
 ·exact⟨⟨_,_,_,_,_,_,_,_,_,_,by k_is,by k_is,by k_is,by k_is⟩⟩
 ·exact⟨⟨_,_,_,_,_,_,_,_,_,_,by k_is,by k_is,by k_is,by k_is⟩⟩
 ·exact⟨⟨_,_,_,_,_,_,_,_,_,_,by k_is,by k_is,by k_is,by k_is⟩⟩
 ·exact⟨⟨_,_,_,_,_,_,_,_,_,_,by k_is,by k_is,by k_is,by k_is⟩⟩
 ·exact⟨⟨_,_,_,_,_,_,_,_,_,_,by k_is,by k_is,by k_is,by k_is⟩⟩
 ·exact⟨⟨_,_,_,_,_,_,_,_,_,_,by k_is,by k_is,by k_is,by k_is⟩⟩
 ·exact⟨⟨_,_,_,_,_,_,_,_,_,_,by k_is,by k_is,by k_is,by k_is⟩⟩
 ·exact⟨⟨_,_,_,_,_,_,_,_,_,_,by k_is,by k_is,by k_is,by k_is⟩⟩
 ·exact⟨⟨_,_,_,_,_,_,_,_,_,_,by k_is,by k_is,by k_is,by k_is⟩⟩
 ·exact⟨⟨_,_,_,_,_,_,_,_,_,_,by k_is,by k_is,by k_is,by k_is⟩⟩
 ·exact⟨⟨_,_,_,_,_,_,_,_,_,_,by k_is,by k_is,by k_is,by k_is⟩⟩
 ·exact⟨⟨_,_,_,_,_,_,_,_,_,_,by k_is,by k_is,by k_is,by k_is⟩⟩
 ·exact⟨⟨_,_,_,_,_,_,_,_,_,_,by k_is,by k_is,by k_is,by k_is⟩⟩
 ·exact⟨⟨_,_,_,_,_,_,_,_,_,_,by k_is,by k_is,by k_is,by k_is⟩⟩
 ·exact⟨⟨_,_,_,_,_,_,_,_,_,_,by k_is,by k_is,by k_is,by k_is⟩⟩
 ·exact⟨⟨_,_,_,_,_,_,_,_,_,_,by k_is,by k_is,by k_is,by k_is⟩⟩
 ·exact⟨⟨_,_,_,_,_,_,_,_,_,_,by k_is,by k_is,by k_is,by k_is⟩⟩
 ·exact⟨⟨_,_,_,_,_,_,_,_,_,_,by k_is,by k_is,by k_is,by k_is⟩⟩
 ·exact⟨⟨_,_,_,_,_,_,_,_,_,_,by k_is,by k_is,by k_is,by k_is⟩⟩
 ·exact⟨⟨_,_,_,_,_,_,_,_,_,_,by k_is,by k_is,by k_is,by k_is⟩⟩
 ·exact⟨⟨_,_,_,_,_,_,_,_,_,_,by k_is,by k_is,by k_is,by k_is⟩⟩
 ·exact⟨⟨_,_,_,_,_,_,_,_,_,_,by k_is,by k_is,by k_is,by k_is⟩⟩
 ·k_is
 ·k_is
 ·k_is
 ·k_is
 ·k_is
 ·k_is
 ·k_is
 ·k_is
 ·k_is
 ·k_is
 ·exact⟨⟨_,_,⟨by k_is,⟨⟨_,_,_,_,_,_,_,_,_,_,_,_,_,by k_is⟩⟩,by kernel_rfl,by k_is,by k_is,by k_is,by k_is,by k_is,by k_is⟩,by kernel_rfl,by kernel_rfl,by kernel_rfl,⟨⟨_,_,_,by k_is,⟨⟨_,_,_,_,_,_,_,_,_,_,_,_,_,by k_is⟩⟩,by kernel_rfl,by k_is,by k_is,by k_is,by k_is,by k_is,_,_,_,_,_,_,_,_,by k_is,by k_is,by k_is⟩⟩,⟨⟨_,_,_,by k_is,⟨⟨_,_,_,_,_,_,_,_,_,_,_,_,_,by k_is⟩⟩,by kernel_rfl,by k_is,by k_is,by k_is,by k_is,by k_is,_,_,_,_,_,_,_,_,by k_is,by k_is,by k_is⟩⟩,⟨⟨_,_,_,by k_is,⟨⟨_,_,_,_,_,_,_,_,_,_,_,_,_,by k_is⟩⟩,by kernel_rfl,by k_is,by k_is,by k_is,by k_is,by k_is,_,_,_,_,_,_,_,_,by k_is,by k_is,by k_is⟩⟩⟩⟩
 ·exact⟨_,by k_is,by kernel_rfl⟩
 ·exact⟨_,by k_is⟩
 ·exact⟨_,by k_is⟩
end
namespace L2
open PySem PySem.Spec PyProof.Rows
abbrev Key:=Sum Int Str
def iJ:Key→Value→Bool
 | .inl k,v=>Value.isInt k v
 | .inr x,v=>Value.isStrOf x v
def keyH (w:World):Key→Int
 | .inl k=>hashInt k
 | .inr x=>hashStr w x
theorem aN:∀ {k:Key} {v:Value},iJ k v=true→(∃ i t,k=Sum.inl i∧v=Value.int i t)∨(∃ x t,k=Sum.inr x∧v=Value.str x t)
 | .inl i,v,h=>by
  obtain ⟨t,e⟩:=Value.isInt_shape (k:=i) (v:=v) h
  exact .inl ⟨i,t,rfl,e⟩
 | .inr x,v,h=>by
  obtain ⟨t,e⟩:=Value.isStrOf_shape (x:=x) (v:=v) h
  exact .inr ⟨x,t,rfl,e⟩
theorem kT (i:Int) (t:Tok):iJ (.inl i) (.int i t)=true:=by simp [iJ,Value.isInt]
theorem lh (x:Str) (t:Tok):iJ (.inr x) (.str x t)=true:=by simp [iJ,Value.isStrOf]
theorem sM (a b:Int):decide ((Sum.inl a:Key)=Sum.inl b)=(a == b):=by
 by_cases e:a=b
 ·subst e;simp
 ·have h:¬ (Sum.inl a:Key)=Sum.inl b:=fun q=>e (Sum.inl.inj q)
  rw [decide_eq_false h]
  exact (beq_eq_false_iff_ne.mpr e).symm
theorem sA (a b:Str):decide ((Sum.inr a:Key)=Sum.inr b)=decide (a=b):=by
 by_cases e:a=b
 ·subst e;simp
 ·have h:¬ (Sum.inr a:Key)=Sum.inr b:=fun q=>e (Sum.inr.inj q)
  rw [decide_eq_false h,decide_eq_false e]
theorem qV (a:Int) (b:Str):decide ((Sum.inl a:Key)=Sum.inr b)=false:=decide_eq_false (fun q=>nomatch q)
theorem rh (a:Str) (b:Int):decide ((Sum.inr a:Key)=Sum.inl b)=false:=decide_eq_false (fun q=>nomatch q)
def bp (prog:Program) (w:World):PySem.KeyKind prog w Key where
 is:=iJ
 hash:=keyH w
 inj:=fun v a b ha hb=>by
  rcases aN ha with ⟨i,t,rfl,rfl⟩ | ⟨x,t,rfl,rfl⟩
  ·rcases aN hb with ⟨j,u,rfl,e⟩ | ⟨y,u,rfl,e⟩
   ·injection e with e1 _;rw [e1]
   ·exact nomatch e
  ·rcases aN hb with ⟨j,u,rfl,e⟩ | ⟨y,u,rfl,e⟩
   ·exact nomatch e
   ·injection e with e1 _;rw [e1]
 byValue:=fun k v h=>by
  rcases aN h with ⟨i,t,rfl,rfl⟩ | ⟨x,t,rfl,rfl⟩<;>rfl
 pyHash:=fun hv h=>by
  rcases aN hv with ⟨i,t,rfl,rfl⟩ | ⟨x,t,rfl,rfl⟩
  ·exact wpAny_pyHash_int h
  ·exact wpAny_pyHash_str h
 eqBool:=fun hu hv h=>by
  rcases aN hu with ⟨i,t,rfl,rfl⟩ | ⟨x,t,rfl,rfl⟩
  ·rcases aN hv with ⟨j,u,rfl,rfl⟩ | ⟨y,u,rfl,rfl⟩
   ·rw [sM] at h;exact wpAny_eqBool_int h
   ·rw [qV] at h;exact SeqAt.EqAt.int_str i t y u _ _ _ _ h
  ·rcases aN hv with ⟨j,u,rfl,rfl⟩ | ⟨y,u,rfl,rfl⟩
   ·rw [rh] at h;exact SeqAt.EqAt.str_int x t j u _ _ _ _ h
   ·rw [sA] at h;exact wpAny_eqBool_str h
 «strs»:=fun k x t v h=>by
  rcases aN h with ⟨i,u,rfl,e⟩ | ⟨y,u,rfl,e⟩
  ·exact nomatch e
  ·injection e with e1 _
   subst e1
   cases v<;>rfl
theorem gX (prog:Program) (w:World) (i:Int) (t:Tok):(bp prog w).is (.inl i) (.int i t)=true:=kT i t
theorem ij (prog:Program) (w:World) (x:Str) (t:Tok):(bp prog w).is (.inr x) (.str x t)=true:=lh x t
end L2
namespace L2
open PySem PySem.Spec PyProof.Rows
inductive V where
 | non | bl (b:Bool) | int (i:Int) | str (x:Str) | byt (b:Array UInt8) | flt (b:UInt64) | ref (a:Addr) | ty (n:String)
 deriving DecidableEq
def RelV:V→Value→Prop
 | .non,u=>u=Value.none
 | .bl b,u=>u=Value.bool b
 | .int i,u=>∃ t,u=Value.int i t
 | .str x,u=>∃ t,u=Value.str x t
 | .byt b,u=>∃ t,u=Value.bytes b t
 | .flt b,u=>∃ t,u=Value.float b t
 | .ref a,u=>u=Value.ref a
 | .ty n,u=>u=Value.type n
abbrev Vals:List V→List Value→Prop:=Paired RelV
theorem Vals.length {xs:List V} {us:List Value} (r:Vals xs us):xs.length=us.length:=Paired.length r
theorem Vals.get:∀ {xs:List V} {us:List Value} {i:Nat} {x:V},Vals xs us→xs[i]?=some x→∃ u,us[i]?=some u∧RelV x u
 | _,_,_,_,.nil,e=>by simp at e
 | _,_,0,_,.cons r _,e=>by simp at e;subst e;exact⟨_,rfl,r⟩
 | _,_,i + 1,x,.cons _ t,e=>by
  obtain ⟨u,h1,h2⟩:=Vals.get (i:=i) (x:=x) t (by simpa using e)
  exact⟨u,by simpa using h1,h2⟩
theorem Vals.set {x:V} {u:Value} (r:RelV x u):∀ {xs:List V} {us:List Value} (i:Nat),Vals xs us→Vals (xs.set i x) (us.set i u)
 | _,_,_,.nil=>.nil
 | _,_,0,.cons _ t=>.cons r t
 | _,_,i + 1,.cons q t=>.cons q (Vals.set r i t)
theorem Vals.append:∀ {xs ys:List V} {us ws:List Value},Vals xs us→Vals ys ws→Vals (xs++ys) (us++ws)
 | _,_,_,_,.nil,s=>s
 | _,_,_,_,.cons r t,s=>.cons r (Vals.append t s)
theorem Vals.take:∀ {xs:List V} {us:List Value} (n:Nat),Vals xs us→Vals (xs.take n) (us.take n)
 | _,_,0,_=>.nil
 | _,_,_ + 1,.nil=>.nil
 | _,_,n + 1,.cons r t=>.cons r (Vals.take n t)
theorem Vals.drop:∀ {xs:List V} {us:List Value} (n:Nat),Vals xs us→Vals (xs.drop n) (us.drop n)
 | _,_,0,r=>r
 | _,_,_ + 1,.nil=>.nil
 | _,_,n + 1,.cons _ t=>Vals.drop n t
def RelO:Option V→Option Value→Prop
 | some v,some u=>RelV v u
 | none,none=>True
 | _,_=>False
def KV {κ:Type}:List (κ×V)→List (κ×Value)→Prop:=Paired fun (p:κ×V) (q:κ×Value)=>p.1=q.1∧RelV p.2 q.2
def kV:Key→V
 | .inl i=>.int i
 | .inr x=>.str x
inductive HO where
 | lst (xs:List V)
 | tup (xs:List V)
 | dK (kvs:List (Key×V)) | dT (kvs:List (List Key×V))
 | set (S:Int→Bool) (n:Nat)
 | ins (C dx:Addr) (fs:List (Str×V))
 | own (x:Addr)
 | xd (fs:List (Str×V))
 | met (f x:Addr)
 | rng (lo hi:Int)
 | frz (o:Obj) (u:HO)
 | tbl (ps:Array Value)
 | ext (φ:Heap→Prop)
abbrev Hp:=Addr→Option HO
def upd (H:Hp) (a:Addr) (o:HO):Hp:=fun b=>if b=a then some o else H b
theorem ak {H:Hp} {a:Addr} {o:HO}:upd H a o a=some o:=by unfold upd;rw [if_pos rfl]
theorem ap {H:Hp} {a b:Addr} {o:HO} (h:b≠a):upd H a o b=H b:=by unfold upd;rw [if_neg h]
theorem bH {H:Hp} {a b:Addr} {o:HO} (h:H a=some o) (h':H b=none):a≠b:=by
 intro e;subst e;rw [h] at h';cases h'
section
variable (P:Program) (w:World)
def bq (H:Hp) (h:Heap) (a:Addr):HO→Prop
 | .lst xs=>xs.length≤sizeLine∧∃ (its:List Value) (n:Nat),Vals xs its∧h.get? a=some { cls:=.type "list",data:=.seq its.toArray n }
 | .tup xs=>xs.length≤sizeLine∧∃ its:List Value,Vals xs its∧IsTup h a its.toArray
 | .dK kvs=>kvs.length≤sizeLine∧(a == sysModules)=false∧∃ vs,KV kvs vs∧h.DictOf (bp P w) a vs
 | .dT kvs=>kvs.length≤sizeLine∧(a == sysModules)=false∧∃ xs:List (List Key×Addr×Value),
   Paired (fun (p:List Key×V) (q:List Key×Addr×Value)=>p.1=q.1∧H q.2.1=some (.tup (p.1.map kV))∧RelV p.2 q.2.2) kvs xs ∧
   ∃ o es ep,h.get? a=some o∧o.ExactDict∧o.data=.dict es ep∧es.toList=xs.map (entryOfKey (tupleKind (bp P w)))∧(xs.map (·.1)).Nodup
 | .set S n=>h.SetOf (intKind P w) a S n
 | .ins C dx fs=>H dx=some (.own a)∧fs.length≤1000∧dx≠a∧h.get? a=some (PySem.W.instObj C dx) ∧
   ∃ mA,h.Ns1 dx mA∧(∀ f,RelO (fs.lookup f) (mA f))∧PySem.Within mA (fs.map (·.1))
 | .own _=>∃ o,h.get? a=some o
 | .xd fs=>∃ mA,h.Ns1 a mA∧∀ f,RelO (fs.lookup f) (mA f)
 | .rng lo hi=>∃ t u v,h.get? a=some { cls:=.type "range",data:=.fields #[.int lo t,.int hi u,.int 1 v] }
 | .frz o u=>h.get? a=some o∧bq H h a u
 | .tbl ps=>h.get? a=some { cls:=.none,data:=.fields ps }
 | .met f x=>h.get? a=some (PySem.W.methodObj (.ref f) (.ref x))
 | .ext φ=>φ h∧(∃ o,h.get? a=some o)∧∀ h1 h2:Heap,φ h1→(∀ o,h1.get? a=some o→h2.get? a=some o)→φ h2
def HOk (H:Hp) (h:Heap):Prop:=∀ a o,H a=some o→bq P w H h a o
end
section
variable {P:Program} {w:World} {H H':Hp} {h h':Heap} {a:Addr} {o:HO}
theorem bq.lt (x:bq P w H h a o):a < h.objs.size:=by
 cases o with
 | lst xs=>obtain ⟨_,_,_,_,e⟩:=x;exact Heap.lt_size e
 | tup xs=>obtain ⟨_,_,_,p⟩:=x;exact p.lt
 | dK kvs=>obtain ⟨_,_,_,_,o,_,_,e,_⟩:=x;exact Heap.lt_size e
 | dT kvs=>obtain ⟨_,_,_,_,o,_,_,e,_⟩:=x;exact Heap.lt_size e
 | set S n=>obtain ⟨o,_,_,_,e,_⟩:=x;exact Heap.lt_size e
 | ins C dx fs=>obtain ⟨_,_,_,e,_⟩:=x;exact Heap.lt_size e
 | own y=>obtain ⟨_,e⟩:=x;exact Heap.lt_size e
 | xd fs=>obtain ⟨_,⟨_,_,_,e,_⟩,_⟩:=x;exact Heap.lt_size e
 | rng lo hi=>obtain ⟨_,_,_,e⟩:=x;exact Heap.lt_size e
 | frz ob u=>obtain ⟨e,_⟩:=x;exact Heap.lt_size e
 | tbl ps=>exact Heap.lt_size (show h.get? a=some _ from x)
 | met f y=>exact Heap.lt_size (show h.get? a=some _ from x)
 | ext φ=>obtain ⟨_,⟨_,e⟩,_⟩:=x;exact Heap.lt_size e
theorem Paired.mapP {α β:Type} {F G:α→β→Prop}:∀ {l₁:List α} {l₂:List β},Paired F l₁ l₂→(∀ a b,F a b→G a b)→Paired G l₁ l₂
 | _,_,.nil,_=>.nil
 | _,_,.cons r t,f=>.cons (f _ _ r) (Paired.mapP t f)
theorem bq.stay (x:bq P w H h a o) (k:∀ b u,(b=a∨H b=some (.own a))→h.get? b=some u→h'.get? b=some u)
  (ho:∀ b,H b=some (.own a)→H' b=some (.own a)) (ht:∀ b xs,H b=some (.tup xs)→H' b=some (.tup xs)):bq P w H' h' a o:=by
 induction o with
 | lst xs=>obtain ⟨z,its,n,r,e⟩:=x;exact⟨z,its,n,r,k _ _ (.inl rfl) e⟩
 | tup xs=>obtain ⟨z,its,r,ob,e,c⟩:=x;exact⟨z,its,r,ob,k _ _ (.inl rfl) e,c⟩
 | dK kvs=>obtain ⟨z,y,vs,r,ob,es,ep,e,c⟩:=x;exact⟨z,y,vs,r,ob,es,ep,k _ _ (.inl rfl) e,c⟩
 | dT kvs =>
  obtain ⟨z,y,xs,r,ob,es,ep,e,c⟩:=x
  exact⟨z,y,xs,Paired.mapP r fun p q z=>⟨z.1,ht _ _ z.2.1,z.2.2⟩,ob,es,ep,k _ _ (.inl rfl) e,c⟩
 | set S n=>obtain ⟨ob,es,ep,t,e,c⟩:=x;exact⟨ob,es,ep,t,k _ _ (.inl rfl) e,c⟩
 | ins C dx fs =>
  obtain ⟨d,z,ne,e,mA,⟨od,es,ep,e2,c⟩,r⟩:=x
  exact⟨ho _ d,z,ne,k _ _ (.inl rfl) e,mA,⟨od,es,ep,k _ _ (.inr d) e2,c⟩,r⟩
 | own y=>obtain ⟨ob,e⟩:=x;exact⟨ob,k _ _ (.inl rfl) e⟩
 | xd fs=>obtain ⟨mA,⟨od,es,ep,e,c⟩,r⟩:=x;exact⟨mA,⟨od,es,ep,k _ _ (.inl rfl) e,c⟩,r⟩
 | rng lo hi=>obtain ⟨t,u,v,e⟩:=x;exact⟨t,u,v,k _ _ (.inl rfl) e⟩
 | frz ob u ih=>obtain ⟨e,q⟩:=x;exact⟨k _ _ (.inl rfl) e,ih q⟩
 | tbl ps =>
  have e:h.get? a=some { cls:=.none,data:=.fields ps }:=x
  show h'.get? a=some { cls:=.none,data:=.fields ps }
  exact k a _ (.inl rfl) e
 | met f y =>
  have e:h.get? a=some (PySem.W.methodObj (.ref f) (.ref y)):=x
  show h'.get? a=some (PySem.W.methodObj (.ref f) (.ref y))
  exact k a _ (.inl rfl) e
 | ext φ=>obtain ⟨p,⟨o,e⟩,st⟩:=x;exact⟨st _ _ p fun o q=>k _ _ (.inl rfl) q,⟨o,k _ _ (.inl rfl) e⟩,st⟩
theorem HOk.lt (x:HOk P w H h) (e:H a=some o):a < h.objs.size:=(x a o e).lt
theorem HOk.fresh (x:HOk P w H h) (e:h.objs.size≤a):H a=none:=by
 cases q:H a with
 | none=>rfl
 | some u=>exact absurd (Nat.lt_of_lt_of_le (x.lt q) e) (Nat.lt_irrefl _)
theorem HOk.kept (x:HOk P w H h) (k:∀ b u,h.get? b=some u→h'.get? b=some u):HOk P w H h':=fun a o e =>
 (x a o e).stay (fun b u _ q=>k b u q) (fun _ q=>q) fun _ _ q=>q
theorem HOk.laid (x:HOk P w H h) (k:∀ b u,h.get? b=some u→h'.get? b=some u) (hp:h.objs.size≤a) (new:bq P w (upd H a o) h' a o):HOk P w (upd H a o) h':=fun b u e=>by
 have hn:=x.fresh hp
 by_cases hb:b=a
 ·subst hb;rw [ak] at e;cases e;exact new
 ·rw [ap hb] at e
  exact (x b u e).stay (fun c v _ q=>k c v q) (fun c q=>by rw [ap (bH q hn)];exact q) fun c xs q=>by rw [ap (bH q hn)];exact q
end
def Rd (H:Hp) (a:Addr) (u:HO):Prop:=H a=some u∨∃ o,H a=some (.frz o u)
theorem Rd.of {H:Hp} {a:Addr} {u:HO} (h:H a=some u):Rd H a u:=.inl h
theorem Rd.ok {P:Program} {w:World} {H:Hp} {h:Heap} {a:Addr} {u:HO} (r:Rd H a u) (x:HOk P w H h):bq P w H h a u:=by
 rcases r with r | ⟨o,r⟩
 ·exact x a u r
 ·obtain ⟨_,q⟩:=x a _ r
  exact q
def Mut:Option HO→Prop
 | some (.lst _)=>True
 | some (.dK _)=>True
 | some (.dT _)=>True
 | some (.set _ _)=>True
 | some (.ins _ _ _)=>True
 | some (.ext _)=>True
 | _=>False
section
variable {P:Program} {w:World} {H:Hp} {h h':Heap} {x e:Addr} {o':HO}
theorem HOk.write (ok:HOk P w H h) (mu:Mut (H x)) (he:e=x∨H e=some (.own x)) (k:∀ b u,b≠e→h.get? b=some u→h'.get? b=some u) (heo:∃ u,h'.get? e=some u)
  (new:bq P w (upd H x o') h' x o'):HOk P w (upd H x o') h':=fun b u q=>by
 have nown:∀ c y,H c=some (.own y)→c≠x:=fun c y r z=>by subst z;rw [r] at mu;exact mu
 have ntup:∀ c xs,H c=some (.tup xs)→c≠x:=fun c xs r z=>by subst z;rw [r] at mu;exact mu
 by_cases hb:b=x
 ·subst hb;rw [ak] at q;cases q;exact new
 ·rw [ap hb] at q
  by_cases hbe:b=e
  ·have q':H b=some (.own x):=by
    rcases he with z | z
    ·exact absurd (hbe.trans z) hb
    ·rw [hbe];exact z
   rw [q] at q';cases q'
   obtain ⟨v,hv⟩:=heo
   exact⟨v,by rw [hbe];exact hv⟩
  ·refine (ok b u q).stay (fun c v hc r=>k c v ?_ r) (fun c r=>by rw [ap (nown c b r)];exact r) fun c xs r=>by rw [ap (ntup c xs r)];exact r
   rcases hc with rfl | hc
   ·exact hbe
   ·rintro rfl
    rcases he with z | z
    ·exact nown c b hc z
    ·rw [hc] at z;cases z;exact hb rfl
end
structure Un (fs ex:List Addr) (H H':Hp) (h h':Heap):Prop where
 keep:∀ b o,h.get? b=some o→H b=none→b∉fs→b∉ex→h'.get? b=some o
 slot:∀ b o,h.get? b=some o→H b=none→b∈fs→b∉ex→∃ sl,h'.get? b=some { o with slots:=sl }
 free:∀ b o,h.get? b=some o→H b=none→b∉ex→H' b=none
 there:∀ b o,h.get? b=some o→b∉ex→∃ o',h'.get? b=some o'
 tups:∀ b xs,H b=some (.tup xs)→H' b=some (.tup xs)
 frzs:∀ b o u,H b=some (.frz o u)→H' b=some (.frz o u)
 tbls:∀ b ps,H b=some (.tbl ps)→∃ more,H' b=some (.tbl (ps++more))
section
variable {fs fs' ex ex':List Addr} {H H1 H2:Hp} {h h1 h2 h':Heap} {a x e:Addr} {o:HO}
theorem Un.any (u:Un fs ex H H1 h h1) {b:Addr} {ob:Obj} (q:h.get? b=some ob) (n:H b=none) (hx:b∉ex):∃ sl,h1.get? b=some { ob with slots:=sl }:=by
 by_cases hb:b∈fs
 ·exact u.slot b ob q n hb hx
 ·exact⟨ob.slots,u.keep b ob q n hb hx⟩
theorem Un.trans (a:Un fs ex H H1 h h1) (b:Un fs ex H1 H2 h1 h2):Un fs ex H H2 h h2 where
 keep:=fun c ob q n hc hx=>b.keep c ob (a.keep c ob q n hc hx) (a.free c ob q n hx) hc hx
 slot:=fun c ob q n hc hx=>by
  obtain ⟨sl,e1⟩:=a.slot c ob q n hc hx
  obtain ⟨sl',e2⟩:=b.slot c _ e1 (a.free c ob q n hx) hc hx
  exact⟨sl',e2⟩
 free:=fun c ob q n hx=>by
  obtain ⟨o',e1⟩:=a.there c ob q hx
  exact b.free c o' e1 (a.free c ob q n hx) hx
 there:=fun c ob q hx=>by
  obtain ⟨o',e1⟩:=a.there c ob q hx
  exact b.there c o' e1 hx
 tups:=fun c xs q=>b.tups c xs (a.tups c xs q)
 frzs:=fun c ob xs q=>b.frzs c ob xs (a.frzs c ob xs q)
 tbls:=fun c ps q=>by
  obtain ⟨m1,e1⟩:=a.tbls c ps q
  obtain ⟨m2,e2⟩:=b.tbls c _ e1
  exact⟨m1++m2,by rw [e2,Array.append_assoc]⟩
theorem Un.kept (k:∀ b u,h.get? b=some u→h'.get? b=some u):Un fs ex H H h h' :=
 ⟨fun b ob q _ _ _=>k b ob q,fun b ob q _ _ _=>⟨ob.slots,k b ob q⟩,fun _ _ _ n _=>n,fun b ob q _=>⟨ob,k b ob q⟩,fun _ _ q=>q,fun _ _ _ q=>q,fun _ ps q=>⟨#[],by rw [q];simp⟩⟩
theorem Un.refl:Un fs ex H H h h:=Un.kept fun _ _ q=>q
theorem Un.laid (k:∀ b u,h.get? b=some u→h'.get? b=some u) (hp:h.objs.size≤a) (hn:H a=none):Un fs ex H (upd H a o) h h' where
 keep:=fun b u q _ _ _=>k b u q
 slot:=fun b u q _ _ _=>⟨u.slots,k b u q⟩
 free:=fun b u q n _=>by rw [ap (Nat.ne_of_lt (Nat.lt_of_lt_of_le (Heap.lt_size q) hp))];exact n
 there:=fun b u q _=>⟨u,k b u q⟩
 tups:=fun b xs q=>by rw [ap (bH q hn)];exact q
 frzs:=fun b u xs q=>by rw [ap (bH q hn)];exact q
 tbls:=fun b ps q=>⟨#[],by rw [ap (bH q hn),q];simp⟩
theorem Un.write (mu:Mut (H x)) (he:e=x∨H e=some (.own x)) (k:∀ b u,b≠e→h.get? b=some u→h'.get? b=some u) (heo:∃ u,h'.get? e=some u):Un fs ex H (upd H x o) h h':=by
 have hx:∀ b,H b=none→b≠x:=fun b n z=>by subst z;rw [n] at mu;exact mu
 have hb:∀ b,H b=none→b≠e:=fun b n z=>by
  subst z
  rcases he with r | r
  ·exact hx b n r
  ·rw [n] at r;cases r
 have hm:∀ b u,H b=some u→¬ Mut (some u)→b≠x:=fun b u q nm z=>by subst z;rw [q] at mu;exact nm mu
 refine⟨fun b u q n _ _=>k b u (hb b n) q,fun b u q n _ _=>⟨u.slots,k b u (hb b n) q⟩,fun b u q n _=>by rw [ap (hx b n)];exact n,fun b u q _=>?_,
  fun b xs q=>by rw [ap (hm b _ q fun z=>z)];exact q,fun b u xs q=>by rw [ap (hm b _ q fun z=>z)];exact q,fun b ps q=>⟨#[],by rw [ap (hm b _ q fun z=>z),q];simp⟩⟩
 by_cases hbe:b=e
 ·subst hbe;exact heo
 ·exact⟨u,k b u hbe q⟩
theorem Un.mono (u:Un fs ex H H1 h h1) (hs:∀ b∈fs,b∈fs') (hx:∀ b∈ex,b∈ex'):Un fs' ex' H H1 h h1 :=
 ⟨fun b ob q n hb he=>u.keep b ob q n (fun z=>hb (hs b z)) fun z=>he (hx b z),fun _ _ q n _ he=>u.any q n fun z=>he (hx _ z),fun b ob q n he=>u.free b ob q n fun z=>he (hx b z),fun b ob q he=>u.there b ob q fun z=>he (hx b z),u.tups,u.frzs,u.tbls⟩
end
def trk (h:Heap) (H:Hp):List Addr:=(List.range h.objs.size).filter fun a=>(H a).isSome
def hidT (h:Heap) (H:Hp):Heap:=PySem.W.hideAll h (trk h H)
theorem l6 (h:Heap) (H:Hp):(hidT h H).objs.size=h.objs.size:=PySem.W.hideAll_size _ _
theorem nh {h:Heap} {H:Hp} {b:Addr} {o:Obj} (e:h.get? b=some o) (n:H b=none):(hidT h H).get? b=some o :=
 PySem.W.hideAll_get _ e fun hm=>by
  have q:(H b).isSome=true:=(List.mem_filter.mp hm).2
  rw [n] at q;simp at q
theorem pX {h:Heap} {H:Hp} {b:Addr} {o:Obj} (e:(hidT h H).get? b=some o):h.get? b=some o∧H b=none:=by
 have e':h.get? b=some o:=PySem.W.of_hideAll (trk h H) e
 refine⟨e',?_⟩
 cases q:H b with
 | none=>rfl
 | some x =>
  have hm:b∈trk h H:=List.mem_filter.mpr ⟨List.mem_range.mpr (Heap.lt_size e'),by simp [q]⟩
  have z:(hidT h H).get? b=none:=PySem.W.hideAll_none (trk h H) hm
  rw [z] at e;cases e
def pF (g h:Heap) (L:Addr):List (Addr×Obj):=(List.range h.objs.size).filterMap fun a=>if a=L∨(g.get? a).isSome=true then none else (h.get? a).map fun o=>(a,o)
def rest (g h:Heap) (L d:Addr):List (Addr×Obj):=(pF g h L).filter fun p=>decide (p.1≠d)
end L2
namespace L2
open PySem PySem.Spec PyProof.Rows
structure Mod (K:PySem.W.Frag) (mg:Str→Option Value) (base:Heap):Prop where
 kin:K.In base
 glob:base.Ns mainGlobals mg
 blt:∃ mb,base.Ns builtinsNs mb∧∀ x:Str,x≠"__name__"→mb x=bootBuiltins x
 nolimit:base.NoLimit
structure Cx where
 prog:Program
 w:World
 K:PySem.W.Frag
 mg:Str→Option Value
 base:Heap
 A:Around
 N:List Str
 s₀:Shared
 H₀:Hp
 env:Env
 outer:List Env
 stack:List Env
 ex:List Addr
 fn:Str→Bool
 calm:Bool
 pn:List (Addr×Obj)
 xe:Value→Shared→Prop
def frs (l:List Env):List Addr:=l.filterMap (·.frame)
abbrev Cx.fs (X:Cx):List Addr:=frs X.outer
def Vis (sc:Scope) (x:Str):Prop:=sc.names.lookup x=some .local∨sc.names.lookup x=some .cell∨sc.names.lookup x=some .free
def Loc (sc:Scope) (x:Str):Prop:=sc.names.lookup x=some .local∨sc.names.lookup x=some .cell
def Look (env:Env) (h:Heap) (m:Str→Option Value) (x:Str) (u:Value):Prop :=
 (env.kindOf x=some .local∧m x=some u)∨((env.kindOf x=some .cell∨env.kindOf x=some .free)∧∃ c,env.cells.lookup x=some c∧h.IsCell c (some u))
structure Cx.Ok (X:Cx):Prop where
 mod:Mod X.K X.mg X.base
 kind:X.env.scope.kind=.function
 glob:X.env.globals=mainGlobals
 blt:X.env.builtins=builtinsNs
 above:X.s₀.heap.objs.size≤X.env.locals
 inj:∀ x y c,X.env.cells.lookup x=some c→X.env.cells.lookup y=some c→x=y
 has:∀ x,(X.env.kindOf x=some .cell∨X.env.kindOf x=some .free)→∃ c,X.env.cells.lookup x=some c
 cab:∀ x c,X.fn x=true→X.env.cells.lookup x=some c→X.s₀.heap.objs.size≤c
 hd:X.calm=true→X.A.handled=none
 frames:X.A.frames=some X.stack
 stk:X.stack=X.outer∨(X.stack=X.env :: X.outer∧X.env.frame=some X.env.locals)
 exf:∀ b∈X.ex,b≠X.env.locals∧∀ x c,X.env.cells.lookup x=some c→c≠b
 bs:∀ b o,X.base.get? b=some o→X.s₀.heap.get? b=some o∧X.H₀ b=none
 bsz:X.base.objs.size≤X.s₀.heap.objs.size
 noex:∀ b o,X.base.get? b=some o→b∉X.ex
 exfs:∀ b∈X.ex,b∉X.fs
 funs:X.s₀.heap.FunFrames X.base X.outer
 frf:∀ b∈X.fs,X.H₀ b=none
structure Inv (X:Cx) (pins:List (Addr×Obj)) (σ:List (Option V)) (H:Hp) (s:Shared):Prop where
 ok:X.Ok
 os:s.os=X.s₀.os
 bare:AllBare s.gens
 base:Un X.fs X.ex X.H₀ H X.s₀.heap s.heap
 loc:∃ m,s.heap.Ns X.env.locals m∧∀ (i:Nat) (x:Str) (v:V),X.N[i]?=some x→σ[i]?=some (some v)→Vis X.env.scope x→∃ u,RelV v u∧Look X.env s.heap m x u
 cell:∀ x c,X.env.cells.lookup x=some c→∃ v,s.heap.IsCell c v
 free:H X.env.locals=none
 freeC:∀ x c,X.env.cells.lookup x=some c→H c=none
 pin:∀ p∈X.pn++pins,s.heap.get? p.1=some p.2∧H p.1=none∧p.1≠X.env.locals∧p.1∉X.fs∧∀ v,p.2.data≠.cell v
 hok:HOk X.prog X.w H s.heap
 len:σ.length=X.N.length
section
variable {X:Cx} {pins:List (Addr×Obj)} {σ:List (Option V)} {H H':Hp} {s:Shared} {h':Heap}
theorem Cx.Ok.nofr (ok:X.Ok) {b:Addr} {o:Obj} (e:X.base.get? b=some o):b∉X.fs:=fun hb=>by
 have:=(ok.funs.mem hb).1
 rw [e] at this;cases this
theorem Inv.bs (I:Inv X pins σ H s):∀ b o,X.base.get? b=some o→s.heap.get? b=some o∧H b=none:=fun b o e =>
 ⟨I.base.keep b o (I.ok.bs b o e).1 (I.ok.bs b o e).2 (I.ok.nofr e) (I.ok.noex b o e),I.base.free b o (I.ok.bs b o e).1 (I.ok.bs b o e).2 (I.ok.noex b o e)⟩
theorem Inv.bk (I:Inv X pins σ H s):∀ b o,X.base.get? b=some o→s.heap.get? b=some o:=fun b o e=>(I.bs b o e).1
theorem Inv.mod (I:Inv X pins σ H s):Mod X.K X.mg X.base:=I.ok.mod
theorem Inv.kIn (I:Inv X pins σ H s):X.K.In s.heap:=I.ok.mod.kin.keeps I.bk
theorem Inv.lt (I:Inv X pins σ H s):X.env.locals < s.heap.objs.size:=let ⟨_,hn,_⟩:=I.loc;hn.lt
theorem Inv.sz (I:Inv X pins σ H s):X.s₀.heap.objs.size≤s.heap.objs.size:=uD I.ok.above (Nat.le_of_lt I.lt)
theorem Inv.nofs (I:Inv X pins σ H s) {a:Addr} (h:s.heap.objs.size≤a):a∉X.fs:=fun hb=>by
 obtain ⟨_,o,ho,_⟩:=I.ok.funs.mem hb
 exact absurd (Nat.lt_of_lt_of_le (Heap.lt_size ho) (uD I.sz h)) (Nat.lt_irrefl _)
theorem Inv.cne (I:Inv X pins σ H s):∀ x c,X.env.cells.lookup x=some c→c≠X.env.locals:=fun x c e z=>by
 obtain ⟨v,o,ho,hd⟩:=I.cell x c e
 obtain ⟨m,⟨o',es,ep,ho',hd',_⟩,_⟩:=I.loc
 rw [z,ho'] at ho;cases ho;rw [hd'] at hd;cases hd
theorem Inv.funs (I:Inv X pins σ H s):s.heap.FunFrames X.base X.outer:=by
 have all:∀ (l:List Env),(∀ b∈frs l,b∈X.fs)→X.s₀.heap.FunFrames X.base l→s.heap.FunFrames X.base l:=by
  intro l
  induction l with
  | nil=>intro _ _;trivial
  | cons env r ih =>
   intro hs hl
   obtain ⟨hk,⟨L,o,hf,hn,ho,hd⟩,hr⟩:=hl
   have hL:L∈X.fs:=hs L (by unfold frs;rw [List.filterMap_cons,hf];exact uF)
   obtain ⟨sl,e⟩:=I.base.slot L o ho (I.ok.frf L hL) hL fun z=>I.ok.exfs L z hL
   exact⟨hk,⟨L,_,hf,hn,e,hd⟩,ih (fun b hb=>hs b (by unfold frs;rw [List.filterMap_cons,hf];exact uB _ hb)) hr⟩
 exact all X.outer (fun _ hb=>hb) I.ok.funs
theorem Inv.stack (I:Inv X pins σ H s):s.heap.FunFrames X.base X.stack:=by
 rcases I.ok.stk with e | ⟨e,hf⟩
 ·rw [e];exact I.funs
 ·rw [e]
  obtain ⟨m,hn,_⟩:=I.loc
  refine .cons (by rw [I.ok.kind];decide) hf hn ?_ I.funs
  exact Heap.get?_none_of_le (uD I.ok.bsz I.ok.above)
theorem Inv.stkSub (I:Inv X pins σ H s):∀ b∈frs X.stack,b∈X.env.locals :: X.fs:=fun b hb=>by
 rcases I.ok.stk with e | ⟨e,hf⟩
 ·rw [e] at hb;exact uB _ hb
 ·rw [e] at hb
  unfold frs at hb
  rw [List.filterMap_cons,hf] at hb
  exact hb
theorem Inv.stkFree (I:Inv X pins σ H s):∀ b∈frs X.stack,H b=none:=fun b hb=>by
 rcases uG.mp (I.stkSub b hb) with e | hb
 ·rw [e];exact I.free
 ·obtain ⟨_,o,ho,_⟩:=I.ok.funs.mem hb
  exact I.base.free b o ho (I.ok.frf b hb) fun z=>I.ok.exfs b z hb
theorem Inv.step {g':Array GenState} {t':Nat} {d':Drawn} {ch:List Addr} (I:Inv X pins σ H s)
  (hch:∀ b∈ch,(b∈X.ex∨X.s₀.heap.objs.size≤b)∧b≠X.env.locals∧(∀ x c,X.env.cells.lookup x=some c→c≠b)∧∀ p∈X.pn++pins,p.1≠b)
  (keep:∀ b o,b≠X.env.locals→b∉X.fs→b∉ch→s.heap.get? b=some o→H b=none→h'.get? b=some o)
  (slot:∀ b o,b≠X.env.locals→b∈X.fs→b∉ch→s.heap.get? b=some o→H b=none→∃ sl,h'.get? b=some { o with slots:=sl }) (free:∀ b o,b∉ch→s.heap.get? b=some o→H b=none→H' b=none)
  (there:∀ b o,b∉ch→s.heap.get? b=some o→∃ o',h'.get? b=some o')
  (tups:∀ b xs,H b=some (.tup xs)→H' b=some (.tup xs)) (frzs:∀ b o u,H b=some (.frz o u)→H' b=some (.frz o u)) (tbls:∀ b ps,H b=some (.tbl ps)→∃ more,H' b=some (.tbl (ps++more)))
  (ns:∀ m,s.heap.Ns X.env.locals m→h'.Ns X.env.locals m) (hok:HOk X.prog X.w H' h') (hg:AllBare g') :
  Inv X pins σ H' { s with heap:=h',gens:=g',drawn:=d',toks:=t' }:=by
 have neL:∀ b o,X.s₀.heap.get? b=some o→b≠X.env.locals:=fun b o e=>Nat.ne_of_lt (Nat.lt_of_lt_of_le (Heap.lt_size e) I.ok.above)
 have neC:∀ b o,X.s₀.heap.get? b=some o→b∉X.ex→b∉ch:=fun b o e hx hb=>by
  rcases (hch b hb).1 with z | z
  ·exact hx z
  ·exact absurd (Nat.lt_of_lt_of_le (Heap.lt_size e) z) (Nat.lt_irrefl _)
 have cellK:∀ x c,X.env.cells.lookup x=some c→∀ v,s.heap.IsCell c v→h'.IsCell c v:=fun x c e v ⟨o,ho,hd⟩=>by
  have nch:c∉ch:=fun z=>(hch c z).2.2.1 x c e rfl
  by_cases hc:c∈X.fs
  ·obtain ⟨sl,q⟩:=slot c o (I.cne x c e) hc nch ho (I.freeC x c e)
   exact⟨_,q,hd⟩
  ·exact⟨o,keep c o (I.cne x c e) hc nch ho (I.freeC x c e),hd⟩
 refine⟨I.ok,I.os,hg,⟨fun b o e n hb hx=>?_,fun b o e n hb hx=>?_,fun b o e n hx=>?_,fun b o e hx=>?_,fun b xs e=>tups b xs (I.base.tups b xs e),fun b o xs e=>frzs b o xs (I.base.frzs b o xs e),fun b ps e=>?_⟩,?_,fun x c e=>?_,?_,fun x c e=>?_,fun p hp=>?_,hok,I.len⟩
 ·exact keep b o (neL b o e) hb (neC b o e hx) (I.base.keep b o e n hb hx) (I.base.free b o e n hx)
 ·obtain ⟨sl,e1⟩:=I.base.slot b o e n hb hx
  obtain ⟨sl',e2⟩:=slot b _ (neL b o e) hb (neC b o e hx) e1 (I.base.free b o e n hx)
  exact⟨sl',e2⟩
 ·obtain ⟨o',e1⟩:=I.base.there b o e hx
  exact free b o' (neC b o e hx) e1 (I.base.free b o e n hx)
 ·obtain ⟨o',e1⟩:=I.base.there b o e hx
  exact there b o' (neC b o e hx) e1
 ·obtain ⟨m1,e1⟩:=I.base.tbls b ps e
  obtain ⟨m2,e2⟩:=tbls b _ e1
  exact⟨m1++m2,by rw [e2,Array.append_assoc]⟩
 ·obtain ⟨m,hn,hl⟩:=I.loc
  refine⟨m,ns m hn,fun i x v e1 e2 e3=>?_⟩
  obtain ⟨u,r,l⟩:=hl i x v e1 e2 e3
  refine⟨u,r,?_⟩
  rcases l with l | ⟨k,c,e,z⟩
  ·exact .inl l
  ·exact .inr ⟨k,c,e,cellK x c e _ z⟩
 ·obtain ⟨v,z⟩:=I.cell x c e
  exact⟨v,cellK x c e v z⟩
 ·obtain ⟨m,⟨o,_,_,ho,_⟩,_⟩:=I.loc
  exact free _ o (fun z=>(hch _ z).2.1 rfl) ho I.free
 ·obtain ⟨v,o,ho,hd⟩:=I.cell x c e
  exact free c o (fun z=>(hch c z).2.2.1 x c e rfl) ho (I.freeC x c e)
 ·obtain ⟨e,n,ne,nf,d⟩:=I.pin p hp
  have nch:p.1∉ch:=fun z=>(hch p.1 z).2.2.2 p hp rfl
  exact⟨keep p.1 p.2 ne nf nch e n,free p.1 p.2 nch e n,ne,nf,d⟩
theorem Inv.un {t':Nat} (I:Inv X pins σ H s) (u:Un X.fs [] H H' s.heap h') (hok:HOk X.prog X.w H' h'):Inv X pins σ H' { s with heap:=h',toks:=t' }:=by
 obtain ⟨m,⟨o,es,ep,ho,r⟩,_⟩:=id I.loc
 obtain ⟨sl,hL⟩:=u.any ho I.free (by simp)
 exact I.step (g':=s.gens) (d':=s.drawn) (ch:=[]) (fun _ z=>nomatch z) (fun b o _ hb _ e n=>u.keep b o e n hb (by simp)) (fun b o _ hb _ e n=>u.slot b o e n hb (by simp)) (fun b o _ e n=>u.free b o e n (by simp)) (fun b o _ e=>u.there b o e (by simp)) u.tups u.frzs u.tbls (fun m' hm=>by
  obtain ⟨o',es',ep',ho',r'⟩:=hm
  rw [ho] at ho';cases ho'
  exact⟨_,es',ep',hL,r'⟩) hok I.bare
theorem Inv.call {g':Array GenState} {t':Nat} {d':Drawn} {ch:List Addr} (I:Inv X pins σ H s) (u:Un (frs X.stack) ch H H' s.heap h') (hok:HOk X.prog X.w H' h') (hg:AllBare g')
  (hch:∀ b∈ch,(b∈X.ex∨X.s₀.heap.objs.size≤b)∧b≠X.env.locals∧(∀ x c,X.env.cells.lookup x=some c→c≠b)∧∀ p∈X.pn++pins,p.1≠b) :
  Inv X pins σ H' { s with heap:=h',gens:=g',drawn:=d',toks:=t' }:=by
 obtain ⟨m,⟨o,es,ep,ho,r⟩,_⟩:=id I.loc
 obtain ⟨sl,hL⟩:=u.any ho I.free fun z=>(hch _ z).2.1 rfl
 exact I.step (ch:=ch) hch (fun b o hL hb hc e n=>u.keep b o e n (fun z=>(uG.mp (I.stkSub b z)).elim hL hb) hc) (fun b o _ _ hc e n=>u.any e n hc) (fun b o hc e n=>u.free b o e n hc) (fun b o hc e=>u.there b o e hc) u.tups u.frzs u.tbls (fun m' hm=>by
  obtain ⟨o',es',ep',ho',r'⟩:=hm
  rw [ho] at ho';cases ho'
  exact⟨_,es',ep',hL,r'⟩) hok hg
theorem Inv.turned {t':Nat} {it:Addr} (I:Inv X pins σ H s) (k:∀ b o,b≠it→s.heap.get? b=some o→h'.get? b=some o) (hn:H it=none) (hL:it≠X.env.locals)
  (h1:it∈X.ex∨X.s₀.heap.objs.size≤it) (h2:∀ x c,X.env.cells.lookup x=some c→c≠it) (h3:∀ p∈X.pn++pins,p.1≠it):Inv X pins σ H { s with heap:=h',toks:=t' }:=by
 have nit:∀ b u,H b=some u→b≠it:=fun b u e z=>by rw [z,hn] at e;cases e
 refine I.step (g':=s.gens) (d':=s.drawn) (ch:=[it]) (fun b hb=>?_) (fun b o _ _ hc e _=>k b o (fun z=>hc (by simp [z])) e) (fun b o _ _ hc e _=>⟨o.slots,k b o (fun z=>hc (by simp [z])) e⟩) (fun _ _ _ _ n=>n)
  (fun b o hc e=>⟨o,k b o (fun z=>hc (by simp [z])) e⟩) (fun _ _ e=>e) (fun _ _ _ e=>e) (fun b ps e=>⟨#[],by rw [e];simp⟩) (fun m hm=>?_) (fun b u e=>?_) I.bare
 ·have e:b=it:=by simpa using hb
  subst e
  exact⟨h1,hL,h2,h3⟩
 ·obtain ⟨o,es,ep,ho,r⟩:=hm
  exact⟨o,es,ep,k _ o (Ne.symm hL) ho,r⟩
 ·refine (I.hok b u e).stay (fun c v hc q=>k c v ?_ q) (fun _ q=>q) fun _ _ q=>q
  rcases hc with z | z
  ·rw [z];exact nit b u e
  ·exact nit c _ z
theorem Inv.tok (I:Inv X pins σ H s) (t:Nat):Inv X pins σ H { s with toks:=t }:=I.un (h':=s.heap) (t':=t) Un.refl I.hok
theorem Inv.kept {t':Nat} (I:Inv X pins σ H s) (k:∀ b u,s.heap.get? b=some u→h'.get? b=some u):Inv X pins σ H { s with heap:=h',toks:=t' }:=I.un (Un.kept k) (I.hok.kept k)
theorem Inv.laid {a:Addr} {o:HO} {t':Nat} (I:Inv X pins σ H s) (k:∀ b u,s.heap.get? b=some u→h'.get? b=some u) (hp:s.heap.objs.size≤a) (new:bq X.prog X.w (upd H a o) h' a o) :
  Inv X pins σ (upd H a o) { s with heap:=h',toks:=t' }:=I.un (Un.laid k hp (I.hok.fresh hp)) (I.hok.laid k hp new)
theorem Inv.write {x e:Addr} {o:HO} {t':Nat} (I:Inv X pins σ H s) (mu:Mut (H x)) (he:e=x∨H e=some (.own x)) (k:∀ b u,b≠e→s.heap.get? b=some u→h'.get? b=some u) (heo:∃ u,h'.get? e=some u)
  (new:bq X.prog X.w (upd H x o) h' x o):Inv X pins σ (upd H x o) { s with heap:=h',toks:=t' }:=I.un (Un.write mu he k heo) (I.hok.write mu he k heo new)
theorem Inv.pins_of {pins':List (Addr×Obj)} (I:Inv X pins σ H s) (h:∀ p∈pins',s.heap.get? p.1=some p.2∧H p.1=none∧p.1≠X.env.locals∧p.1∉X.fs∧∀ v,p.2.data≠.cell v):Inv X pins' σ H s :=
 ⟨I.ok,I.os,I.bare,I.base,I.loc,I.cell,I.free,I.freeC,fun p hp=>(uJ.mp hp).elim (fun z=>I.pin p (uI _ z)) (h p),I.hok,I.len⟩
theorem fZ {N:List Str} (hN:N.Nodup) {i j:Nat} {x:Str} (a:N[i]?=some x) (b:N[j]?=some x):i=j:=by
 obtain ⟨h1,e1⟩:=uL.mp a
 obtain ⟨h2,e2⟩:=uL.mp b
 exact (List.getElem_inj hN).mp (e1.trans e2.symm)
theorem kn {M:Model} {A:Around} {E:Value→Shared→Prop} {i:Nat} {x:Str} {v:V} {u:Value} {Q:Unit→Shared→Prop} (I:Inv X pins σ H s) (hN:X.N.Nodup) (hi:X.N[i]?=some x) (hx:Loc X.env.scope x) (r:RelV v u)
  (h:∀ s',Inv X pins (σ.set i (some v)) H s'→(∃ a,Heap.SameBut a s.heap s'.heap∧(a=X.env.locals∨X.env.cells.lookup x=some a))→Q () s') (hf:X.fn x=true∨X.env.scope.names.lookup x=some .local :=by walk_at "v1"):wpAny M A (storeName X.env x u) Q E s:=by
 obtain ⟨m,hn,hl⟩:=id I.loc
 have hcls:(X.env.scope.kind == .class || (X.env.scope.kind == .module && X.env.locals != X.env.globals))=false:=by rw [I.ok.kind];rfl
 have hiσ:i < σ.length:=by rw [I.len];exact (uL.mp hi).1
 have cne:=I.cne
 have tracked:∀ {a:Addr} {h':Heap},(∃ o,s.heap.get? a=some o∧H a=none)→Heap.SameBut a s.heap h'→HOk X.prog X.w H h':=fun {a h'} ha hs b ob e=>by
  obtain ⟨_,_,hfree⟩:=ha
  refine (I.hok b ob e).stay (fun c w' hc q=>(hs.2 c ?_).trans q) (fun _ q=>q) fun _ _ q=>q
  rintro rfl
  rcases hc with rfl | hc
  ·rw [hfree] at e;cases e
  ·rw [hfree] at hc;cases hc
 rcases hx with hk | hk
 ·refine wpAny_storeName_local hk hn (fun h' hn' hs=>?_) hcls
  obtain ⟨oL,_,_,hoL,_⟩:=id hn
  refine h _ ⟨I.ok,I.os,I.bare,⟨fun b o e n hb hx=>?_,fun b o e n hb hx=>?_,I.base.free,fun b o e hx=>?_,I.base.tups,I.base.frzs,I.base.tbls⟩,⟨_,hn',fun j y v' e1 e2 e3=>?_⟩,fun y c e=>?_,I.free,I.freeC,fun p hp=>?_,tracked ⟨oL,hoL,I.free⟩ hs,by simpa using I.len⟩ ⟨_,hs,.inl rfl⟩
  ·exact (hs.2 b (Nat.ne_of_lt (Nat.lt_of_lt_of_le (Heap.lt_size e) I.ok.above))).trans (I.base.keep b o e n hb hx)
  ·obtain ⟨sl,e1⟩:=I.base.slot b o e n hb hx
   exact⟨sl,(hs.2 b (Nat.ne_of_lt (Nat.lt_of_lt_of_le (Heap.lt_size e) I.ok.above))).trans e1⟩
  ·obtain ⟨o',e1⟩:=I.base.there b o e hx
   exact⟨o',(hs.2 b (Nat.ne_of_lt (Nat.lt_of_lt_of_le (Heap.lt_size e) I.ok.above))).trans e1⟩
  ·by_cases hj:j=i
   ·subst hj
    rw [hi] at e1;cases e1
    rw [List.getElem?_set_self hiσ] at e2
    cases e2
    exact⟨u,r,.inl ⟨hk,by simp⟩⟩
   ·rw [List.getElem?_set_ne (Ne.symm hj)] at e2
    obtain ⟨u',r',q⟩:=hl j y v' e1 e2 e3
    refine⟨u',r',?_⟩
    rcases q with ⟨k,e⟩ | ⟨k,c,e,z⟩
    ·refine .inl ⟨k,?_⟩
     have:y≠x:=fun e=>hj (fZ hN e1 (e ▸ hi))
     simp [this,e]
    ·exact .inr ⟨k,c,e,z.sameBut hs (cne y c e)⟩
  ·obtain ⟨w',z⟩:=I.cell y c e
   exact⟨w',z.sameBut hs (cne y c e)⟩
  ·obtain ⟨e,n,ne,nf,d⟩:=I.pin p hp
   exact⟨(hs.2 p.1 ne).trans e,n,ne,nf,d⟩
 ·have hfn:X.fn x=true:=by
   rcases hf with z | z
   ·exact z
   ·rw [z] at hk;cases hk
  obtain ⟨c,hc⟩:=I.ok.has x (.inl hk)
  obtain ⟨w',z⟩:=I.cell x c hc
  refine wpAny_storeName_cell I.ok.kind hk hc z (fun h' hc' hs=>?_)
  obtain ⟨oc,hoc,hocd⟩:=id z
  refine h { s with heap:=h' } ⟨I.ok,I.os,I.bare,⟨fun b o e n hb hx=>?_,fun b o e n hb hx=>?_,I.base.free,fun b o e hx=>?_,I.base.tups,I.base.frzs,I.base.tbls⟩,⟨m,hn.sameBut hs (Ne.symm (cne x c hc)),fun j y v' e1 e2 e3=>?_⟩,fun y c' e=>?_,I.free,I.freeC,fun p hp=>?_,tracked ⟨oc,hoc,I.freeC x c hc⟩ hs,by simpa using I.len⟩ ⟨c,hs,.inr hc⟩
  ·exact (hs.2 b (Nat.ne_of_lt (Nat.lt_of_lt_of_le (Heap.lt_size e) (I.ok.cab x c hfn hc)))).trans (I.base.keep b o e n hb hx)
  ·obtain ⟨sl,e1⟩:=I.base.slot b o e n hb hx
   exact⟨sl,(hs.2 b (Nat.ne_of_lt (Nat.lt_of_lt_of_le (Heap.lt_size e) (I.ok.cab x c hfn hc)))).trans e1⟩
  ·obtain ⟨o',e1⟩:=I.base.there b o e hx
   exact⟨o',(hs.2 b (Nat.ne_of_lt (Nat.lt_of_lt_of_le (Heap.lt_size e) (I.ok.cab x c hfn hc)))).trans e1⟩
  ·by_cases hj:j=i
   ·subst hj
    rw [hi] at e1;cases e1
    rw [List.getElem?_set_self hiσ] at e2
    cases e2
    exact⟨u,r,.inr ⟨.inl hk,c,hc,hc'⟩⟩
   ·rw [List.getElem?_set_ne (Ne.symm hj)] at e2
    obtain ⟨u',r',q⟩:=hl j y v' e1 e2 e3
    refine⟨u',r',?_⟩
    rcases q with q | ⟨k,c',e,z'⟩
    ·exact .inl q
    ·refine .inr ⟨k,c',e,z'.sameBut hs ?_⟩
     rintro rfl
     exact hj (fZ hN e1 (I.ok.inj _ _ _ e hc ▸ hi))
  ·by_cases hcc:c'=c
   ·subst hcc;exact⟨_,hc'⟩
   ·obtain ⟨w2,z2⟩:=I.cell y c' e
    exact⟨w2,z2.sameBut hs hcc⟩
  ·obtain ⟨e,n,ne,nf,d⟩:=I.pin p hp
   refine⟨(hs.2 p.1 ?_).trans e,n,ne,nf,d⟩
   intro q
   rw [q,hoc] at e
   have q':oc=p.2:=Option.some.inj e
   exact d w' (by rw [← q'];exact hocd)
theorem dU {M:Model} {A:Around} {E:Value→Shared→Prop} {i:Nat} {x:Str} {v:V} {u:Value} {Q:Unit→Shared→Prop} (I:Inv X pins σ H s) (hN:X.N.Nodup) (hi:X.N[i]?=some x) (hx:Loc X.env.scope x) (r:RelV v u)
  (h:∀ s',Inv X pins (σ.set i (some v)) H s'→Q () s') (hf:X.fn x=true∨X.env.scope.names.lookup x=some .local :=by walk_at "v1"):wpAny M A (storeName X.env x u) Q E s :=
 kn I hN hi hx r (fun s' I' _=>h s' I') hf
theorem Inv.call' {s':Shared} {ch:List Addr} (I:Inv X pins σ H s) (ho:s'.os=s.os) (u:Un (frs X.stack) ch H H' s.heap s'.heap) (hok:HOk X.prog X.w H' s'.heap) (hg:AllBare s'.gens)
  (hch:∀ b∈ch,(b∈X.ex∨X.s₀.heap.objs.size≤b)∧b≠X.env.locals∧(∀ x c,X.env.cells.lookup x=some c→c≠b)∧∀ p∈X.pn++pins,p.1≠b):Inv X pins σ H' s':=by
 obtain ⟨h',g',d',t',o'⟩:=s'
 have e:o'=s.os:=ho
 subst e
 exact I.call (g':=g') (t':=t') (d':=d') u hok hg hch
end
abbrev XK:=Value→Option Addr→Hp→Prop
abbrev St:=List (Option V)
abbrev VK:=V→Hp→Prop
abbrev TE:=St→Hp→VK→Prop
abbrev TT:=St→Hp→(Bool→Hp→Prop)→Prop
abbrev TA:=St→Hp→(List V→Hp→Prop)→Prop
structure Ends where
 nx:St→Hp→Prop
 rt:VK
 bk:St→Hp→Prop:=fun _ _=>False
 ct:St→Hp→Prop:=fun _ _=>False
abbrev TS:=Ends→St→Hp→Prop
def EP (X:Cx) (pins:List (Addr×Obj)) (σ:St) (Q:VK) (u:Value) (s':Shared):Prop:=∃ v H',Inv X pins σ H' s'∧RelV v u∧Q v H'
def TP (X:Cx) (pins:List (Addr×Obj)) (σ:St) (Q:Bool→Hp→Prop) (b:Bool) (s':Shared):Prop:=∃ H',Inv X pins σ H' s'∧Q b H'
def AP (X:Cx) (pins:List (Addr×Obj)) (σ:St) (Q:List V→Hp→Prop) (us:List Value) (s':Shared):Prop:=∃ vs H',Inv X pins σ H' s'∧Vals vs us∧Q vs H'
def SP (X:Cx) (pins:List (Addr×Obj)) (D:Ends) (f:Flow) (s':Shared):Prop :=
 match f with
 | .next=>∃ σ' H',Inv X pins σ' H' s'∧D.nx σ' H'
 | .brk=>∃ σ' H',Inv X pins σ' H' s'∧D.bk σ' H'
 | .cont=>∃ σ' H',Inv X pins σ' H' s'∧D.ct σ' H'
 | .ret u=>∃ v σ' H',Inv X pins σ' H' s'∧RelV v u∧D.rt v H'
def PE (X:Cx) (e:Expr) (t:TE):Prop :=
 ∀ (pins:List (Addr×Obj)) (s:Shared) (σ:St) (H:Hp) (Q:VK),Inv X pins σ H s→t σ H Q→wpAny (model X.prog X.w) X.A (eval e X.env) (EP X pins σ Q) X.xe s
def PT (X:Cx) (e:Expr) (t:TT):Prop :=
 ∀ (pins:List (Addr×Obj)) (s:Shared) (σ:St) (H:Hp) (Q:Bool→Hp→Prop),Inv X pins σ H s→t σ H Q→wpAny (model X.prog X.w) X.A (isTrue e X.env (eval e X.env)) (TP X pins σ Q) X.xe s
def PW (X:Cx) (e:Expr) (t:TT):Prop :=
 ∀ (whole:Sem Value) (pins:List (Addr×Obj)) (s:Shared) (σ:St) (H:Hp) (Q:Bool→Hp→Prop),Inv X pins σ H s→t σ H Q→wpAny (model X.prog X.w) X.A (isTrue e X.env whole) (TP X pins σ Q) X.xe s
theorem PW.pt {X:Cx} {e:Expr} {t:TT} (h:PW X e t):PT X e t:=h _
def PA (X:Cx) (es:List Expr) (t:TA):Prop :=
 ∀ (pos:Pos) (pins:List (Addr×Obj)) (s:Shared) (σ:St) (H:Hp) (Q:List V→Hp→Prop),Inv X pins σ H s→t σ H Q→wpAny (model X.prog X.w) X.A (spliced (backTo pos (starEach es X.env))) (AP X pins σ Q) X.xe s
def PS (X:Cx) (st:Stmt) (t:TS):Prop :=
 ∀ (pins:List (Addr×Obj)) (s:Shared) (σ:St) (H:Hp) (D:Ends),Inv X pins σ H s→t D σ H→wpAny (model X.prog X.w) X.A (exec st X.env) (SP X pins D) X.xe s
def PSs (X:Cx) (st:List Stmt) (t:TS):Prop :=
 ∀ (pins:List (Addr×Obj)) (s:Shared) (σ:St) (H:Hp) (D:Ends),Inv X pins σ H s→t D σ H→wpAny (model X.prog X.w) X.A (execs st X.env) (SP X pins D) X.xe s
theorem thn {α:Type} {t:Sem α} {Q Q':α→Shared→Prop} {M:Model} {A:Around} {E:Value→Shared→Prop} {s:Shared} (h:wpAny M A t Q E s) (hQ:∀ a s,Q a s→Q' a s):wpAny M A t Q' E s:=wpAny_mono h hQ fun _ _ x=>x
end L2
namespace L2
open PySem PySem.Spec PyProof.Rows
section
variable {X:Cx}
theorem bin {a b:Expr} {ta tb:TE} (ha:PE X a ta) (hb:PE X b tb) {pins:List (Addr×Obj)} {s:Shared} {σ:St} {H:Hp} {R:V→V→Hp→Prop} (I:Inv X pins σ H s) (h:ta σ H fun x H1=>tb σ H1 fun y H2=>R x y H2)
  {α:Type} {Q:α→Shared→Prop} {f:Value→Value→Sem α}
  (hf:∀ v u s2 x y H2,Inv X pins σ H2 s2→RelV x v→RelV y u→R x y H2→wpAny (model X.prog X.w) X.A (f v u) Q X.xe s2) :
  wpAny (model X.prog X.w) X.A (eval a X.env) (fun v s₁=>wpAny (model X.prog X.w) X.A (eval b X.env) (fun u s₂=>wpAny (model X.prog X.w) X.A (f v u) Q X.xe s₂) X.xe s₁) X.xe s:=by
 refine thn (ha pins s σ H _ I h) fun v s1 ⟨x,H1,I1,r1,q1⟩=>?_
 refine thn (hb pins s1 σ H1 _ I1 q1) fun u s2 ⟨y,H2,I2,r2,q2⟩=>?_
 exact hf v u s2 x y H2 I2 r1 r2 q2
def tVar (i:Nat):TE:=fun σ H Q=>∃ v,σ[i]?=some (some v)∧Q v H
def tC (v:V):TE:=fun _ H Q=>Q v H
theorem a8 {i:Nat} {x:Str} {pos:Pos} (hN:X.N[i]?=some x) (hv:Vis X.env.scope x) (hd:(x == ("__debug__":Str))=false:=by decide) (hcd:(x == ("__classdict__":Str))=false:=by decide):PE X (.Name x pos) (tVar i):=by
 intro pins s σ H Q I h
 obtain ⟨v,e,h⟩:=h
 obtain ⟨m,hn,hl⟩:=I.loc
 obtain ⟨u,r,l⟩:=hl i x v hN e hv
 have fin:EP X pins σ Q u s:=⟨v,H,I,r,h⟩
 rcases l with ⟨hk,hm⟩ | ⟨hk,c,hc,hcell⟩
 ·exact wpAny_Name (wpAny_loadName_local I.ok.kind hk hn hm fin) hd
 ·rcases hk with hk | hk
  ·exact wpAny_Name (wpAny_loadName_cell I.ok.kind hk hc hcell fin) hd
  ·exact wpAny_Name (wpAny_loadName_free I.ok.kind hk hc hcell fin hcd) hd
theorem sk {i j pos}:PE X (.Constant (.int i) j pos) (tC (.int i)):=fun _ _ _ H _ I h=>wpAny_Constant_int ⟨.int i,H,I.tok _,⟨_,rfl⟩,h⟩
theorem tW {b j pos}:PE X (.Constant (.bool b) j pos) (tC (.bl b)):=fun _ _ _ H _ I h=>Constant_bool ⟨.bl b,H,I,rfl,h⟩
theorem sR {j pos}:PE X (.Constant .none j pos) (tC .non):=fun _ _ _ H _ I h=>Constant_none ⟨.non,H,I,rfl,h⟩
theorem jf {x j pos}:PE X (.Constant (.str x) j pos) (tC (.str x)):=fun _ _ _ H _ I h=>Calls.Constant_str ⟨.str x,H,I.tok _,⟨_,rfl⟩,h⟩
def Gl (X:Cx) (x:Str):Prop:=X.env.kindOf x=some .globalImplicit
theorem eL {E:Value→Shared→Prop} {pins:List (Addr×Obj)} {s:Shared} {σ:St} {H:Hp} {x:Str} {u:Value} {pos:Pos} {Q:Value→Shared→Prop} (I:Inv X pins σ H s) (hg:Gl X x) (hm:X.mg x=some u) (h:Q u s)
  (hd:(x == ("__debug__":Str))=false:=by decide):wpAny (model X.prog X.w) X.A (eval (.Name x pos) X.env) Q E s :=
 Calls.Name_function_global I.ok.kind hg (Calls.loadGlobal_global (by rw [I.ok.glob];exact I.mod.glob.keeps I.bk) hm h) hd
theorem i5 {E:Value→Shared→Prop} {pins:List (Addr×Obj)} {s:Shared} {σ:St} {H:Hp} {x:Str} {u:Value} {pos:Pos} {Q:Value→Shared→Prop} (I:Inv X pins σ H s) (hg:Gl X x) (hm:X.mg x=none) (hv:bootBuiltins x=some u) (h:Q u s)
  (hn:x≠"__name__":=by decide) (hd:(x == ("__debug__":Str))=false:=by decide):wpAny (model X.prog X.w) X.A (eval (.Name x pos) X.env) Q E s:=by
 obtain ⟨mb,h1,h2⟩:=I.mod.blt
 exact Calls.Name_function_global I.ok.kind hg (Calls.loadGlobal_builtin (by rw [I.ok.glob];exact I.mod.glob.keeps I.bk) hm (by rw [I.ok.blt];exact h1.keeps I.bk) ((h2 x hn).trans hv) h) hd
theorem eJ {x:Str} {v:V} {u:Value} {pos:Pos} (hg:Gl X x) (hm:X.mg x=some u) (r:RelV v u) (hd:(x == ("__debug__":Str))=false:=by decide):PE X (.Name x pos) (tC v) :=
 fun _ _ _ H _ I h=>eL I hg hm ⟨v,H,I,r,h⟩ hd
theorem kK {x:Str} {v:V} {u:Value} {pos:Pos} (hg:Gl X x) (hm:X.mg x=none) (hv:bootBuiltins x=some u) (r:RelV v u) (hn:x≠"__name__":=by decide) (hd:(x == ("__debug__":Str))=false:=by decide):PE X (.Name x pos) (tC v) :=
 fun _ _ _ H _ I h=>i5 I hg hm hv ⟨v,H,I,r,h⟩ hn hd
variable {a b:Expr} {ta tb:TE} {pos:Pos}
def PC (X:Cx) (op:CmpOp) (a b:Expr) (t:TE):Prop :=
 ∀ (pins:List (Addr×Obj)) (s:Shared) (σ:St) (H:Hp) (Q:VK),Inv X pins σ H s→t σ H Q →
  wpAny (model X.prog X.w) X.A (eval a X.env) (fun v s₁=>wpAny (model X.prog X.w) X.A (eval b X.env) (fun u s₂=>wpAny (model X.prog X.w) X.A (compareOp op v u) (EP X pins σ Q) X.xe s₂) X.xe s₁) X.xe s
def tB (t:TE):TT:=fun σ H Q=>t σ H fun x H1=>∃ c,x=.bl c∧Q c H1
theorem pt_cmp {op:CmpOp} {t:TE} (h:PC X op a b t) (h1:behindInMarks op b=false:=by first | exact nobehind _ (by decide) (by decide) | rfl):PT X (.Compare a [op] [b] pos) (tB t):=by
 intro pins s σ H Q I hw
 refine wpAny_isTrue_Compare1 (thn (h pins s σ H _ I hw) fun v s1 h1=>thn h1 fun u s2 h2=>thn h2 fun c s3 ⟨x,H1,I1,r1,q1⟩=>?_) h1
 obtain ⟨d,rfl,q⟩:=q1
 cases r1
 exact wpAny_truthy_bool ⟨H1,I1,q⟩
theorem tK {e:Expr} {t:TE} (h:PE X e t) (he:∀ whole,isTrue e X.env whole=(do let v←whole;standAt e.pos;holding [v] (truthy v)):=by intro _;rfl):PT X e (tB t):=by
 intro pins s σ H Q I hw
 refine isTrue_plain (thn (h pins s σ H _ I hw) fun v s1 ⟨x,H1,I1,r1,q1⟩=>?_) (he _)
 obtain ⟨d,rfl,q⟩:=q1
 cases r1
 exact wpAny_truthy_bool ⟨H1,I1,q⟩
variable {tA tB':TT} {rest:List Expr}
def tAnd (t u:TT):TT:=fun σ H Q=>t σ H fun c H1=>if c=true then u σ H1 Q else Q false H1
def tOr (t u:TT):TT:=fun σ H Q=>t σ H fun c H1=>if c=true then Q true H1 else u σ H1 Q
def tNot (t:TT):TT:=fun σ H Q=>t σ H fun c H1=>Q (!c) H1
theorem oK (ha:PT X a tA):PW X (.BoolOp .And [a] pos) tA:=by
 intro wh pins s σ H Q I h
 refine isTrue_and (thn (ha pins s σ H Q I h) fun c s1 e=>?_)
 cases c with
 | true=>exact isTrue_and_nil e
 | false=>exact e
theorem qT (ha:PT X a tA):PW X (.BoolOp .Or [a] pos) tA:=by
 intro wh pins s σ H Q I h
 refine isTrue_or (thn (ha pins s σ H Q I h) fun c s1 e=>?_)
 cases c with
 | false=>exact isTrue_or_nil e
 | true=>exact e
theorem rW (ha:PT X a tA) (hb:PW X (.BoolOp .And (b :: rest) pos) tB'):PW X (.BoolOp .And (a :: b :: rest) pos) (tAnd tA tB'):=by
 intro wh pins s σ H Q I h
 refine isTrue_and (thn (ha pins s σ H _ I h) fun c s1 ⟨H1,I1,q1⟩=>?_)
 cases c with
 | true=>exact hb wh pins s1 σ H1 Q I1 q1
 | false=>exact⟨H1,I1,q1⟩
theorem ut (ha:PT X a tA) (hb:PW X (.BoolOp .Or (b :: rest) pos) tB'):PW X (.BoolOp .Or (a :: b :: rest) pos) (tOr tA tB'):=by
 intro wh pins s σ H Q I h
 refine isTrue_or (thn (ha pins s σ H _ I h) fun c s1 ⟨H1,I1,q1⟩=>?_)
 cases c with
 | true=>exact⟨H1,I1,q1⟩
 | false=>exact hb wh pins s1 σ H1 Q I1 q1
theorem qO (ha:PT X a tA):PT X (.UnaryOp .Not a pos) (tNot tA):=by
 intro pins s σ H Q I h
 exact isTrue_not (ha pins s σ H (fun c H1=>Q (!c) H1) I h)
def ue (ta tb:TE):TE:=fun σ H Q=>ta σ H fun x H1=>∃ c,x=.bl c∧if c=true then tb σ H1 Q else Q (.bl false) H1
def tOrV (ta tb:TE):TE:=fun σ H Q=>ta σ H fun x H1=>∃ c,x=.bl c∧if c=true then Q (.bl true) H1 else tb σ H1 Q
def uh (ta:TE):TE:=fun σ H Q=>ta σ H fun x H1=>∃ c,x=.bl c∧Q (.bl (!c)) H1
theorem qQ {op} {t:TE} (h:PE X a t):PE X (.BoolOp op [a] pos) t:=fun pins s σ H Q I hw=>BoolOp_one (h pins s σ H Q I hw)
theorem tL (ha:PE X a ta) (hb:PE X (.BoolOp .And (b :: rest) pos) tb):PE X (.BoolOp .And (a :: b :: rest) pos) (ue ta tb):=by
 intro pins s σ H Q I h
 refine BoolOp_and (thn (ha pins s σ H _ I h) fun v s1 ⟨x,H1,I1,r1,q1⟩=>?_)
 obtain ⟨c,rfl,q1⟩:=q1
 cases r1
 refine wpAny_truthy_bool ?_
 cases c with
 | true=>exact hb pins s1 σ H1 Q I1 q1
 | false=>exact⟨.bl false,H1,I1,rfl,q1⟩
theorem uf (ha:PE X a ta) (hb:PE X (.BoolOp .Or (b :: rest) pos) tb):PE X (.BoolOp .Or (a :: b :: rest) pos) (tOrV ta tb):=by
 intro pins s σ H Q I h
 refine BoolOp_or (thn (ha pins s σ H _ I h) fun v s1 ⟨x,H1,I1,r1,q1⟩=>?_)
 obtain ⟨c,rfl,q1⟩:=q1
 cases r1
 refine wpAny_truthy_bool ?_
 cases c with
 | false=>exact hb pins s1 σ H1 Q I1 q1
 | true=>exact⟨.bl true,H1,I1,rfl,q1⟩
theorem r6 (ha:PE X a ta):PE X (.UnaryOp .Not a pos) (uh ta):=by
 intro pins s σ H Q I h
 refine UnaryOp_ (thn (ha pins s σ H _ I h) fun v s1 ⟨x,H1,I1,r1,q1⟩=>?_)
 obtain ⟨c,rfl,q1⟩:=q1
 cases r1
 exact not_of (wpAny_truthy_bool ⟨.bl (!c),H1,I1,rfl,q1⟩)
def tIf (t:TT) (ta tb:TE):TE:=fun σ H Q=>t σ H fun c H1=>if c=true then ta σ H1 Q else tb σ H1 Q
theorem mS {c:Expr} (hc:PT X c tA) (ha:PE X a ta) (hb:PE X b tb):PE X (.IfExp c a b pos) (tIf tA ta tb):=by
 intro pins s σ H Q I h
 refine wpAny_IfExp (thn (hc pins s σ H _ I h) fun d s1 ⟨H1,I1,q1⟩=>?_)
 cases d with
 | true=>exact ha pins s1 σ H1 Q I1 q1
 | false=>exact hb pins s1 σ H1 Q I1 q1
end
end L2
namespace L2
open PySem PySem.Spec PyProof.Rows
def SqL (K:PySem.W.Frag) (H:Hp) (a:Addr) (xs:List V):Prop :=
 Rd H a (.lst xs) ∨
  ∃ (o:Obj) (its:Array Value) (n:Nat),K.lookup a=some o∧o.cls=.type "list"∧o.dict=none∧o.data=.seq its n∧its.size≤sizeLine∧Vals xs its.toList
def SqT (K:PySem.W.Frag) (H:Hp) (a:Addr) (xs:List V):Prop :=
 Rd H a (.tup xs) ∨
  ∃ (o:Obj) (its:Array Value) (n:Nat),K.lookup a=some o∧o.cls=.type "tuple"∧o.data=.seq its n∧its.size≤sizeLine∧Vals xs its.toList
def absV:Value→Option V
 | .none=>some .non
 | .bool b=>some (.bl b)
 | .int i _=>some (.int i)
 | .str x _=>some (.str x)
 | .bytes b _=>some (.byt b)
 | .float b _=>some (.flt b)
 | .ref a=>some (.ref a)
 | .type n=>some (.ty n)
 | _=>none
theorem RelV.abs {x:V} {u:Value} (r:RelV x u):absV u=some x:=by
 cases x with
 | non=>cases r;rfl
 | bl _=>cases r;rfl
 | int _=>obtain ⟨t,rfl⟩:=r;rfl
 | str _=>obtain ⟨t,rfl⟩:=r;rfl
 | byt _=>obtain ⟨t,rfl⟩:=r;rfl
 | flt _=>obtain ⟨t,rfl⟩:=r;rfl
 | ref _=>cases r;rfl
 | ty _=>cases r;rfl
theorem RelV.inj {x y:V} {u:Value} (r:RelV x u) (q:RelV y u):x=y:=Option.some.inj (r.abs.symm.trans q.abs)
theorem Vals.inj:∀ {xs ys:List V} {us:List Value},Vals xs us→Vals ys us→xs=ys
 | _,_,_,.nil,.nil=>rfl
 | _,_,_,.cons r t,.cons r' t'=>by rw [r.inj r',Vals.inj t t']
section
variable {X:Cx} {pins:List (Addr×Obj)} {σ:St} {H:Hp} {s:Shared} {a:Addr} {xs ys:List V}
theorem SqL.of {K:PySem.W.Frag} (h:H a=some (.lst xs)):SqL K H a xs:=.inl (.inl h)
theorem SqT.of {K:PySem.W.Frag} (h:H a=some (.tup xs)):SqT K H a xs:=.inl (.inl h)
theorem Inv.list (I:Inv X pins σ H s) (h:SqL X.K H a xs):∃ its:List Value,Vals xs its∧PlainL s.heap a its.toArray∧xs.length≤sizeLine:=by
 rcases h with h | ⟨o,its,n,hk,hc,hd,hs,hz,r⟩
 ·obtain ⟨z,its,n,r,e⟩:=h.ok I.hok
  exact⟨its,r,⟨_,n,e,rfl,rfl,rfl⟩,z⟩
 ·refine⟨its.toList,r,⟨o,n,I.kIn a o hk,hc,hd,by simpa using hs⟩,?_⟩
  have e:=r.length
  simp only [Array.length_toList] at e
  omega
theorem Inv.tuple (I:Inv X pins σ H s) (h:SqT X.K H a xs):∃ its:List Value,Vals xs its∧IsTup s.heap a its.toArray∧xs.length≤sizeLine:=by
 rcases h with h | ⟨o,its,n,hk,hc,hs,hz,r⟩
 ·obtain ⟨z,its,r,p⟩:=h.ok I.hok
  exact⟨its,r,p,z⟩
 ·refine⟨its.toList,r,⟨o,I.kIn a o hk,hc,n,by simpa using hs⟩,?_⟩
  have e:=r.length
  simp only [Array.length_toList] at e
  omega
theorem Inv.list_inj (I:Inv X pins σ H s) (h:SqL X.K H a xs) (h':SqL X.K H a ys):xs=ys:=by
 obtain ⟨its,r,⟨o,n,e,_,_,d⟩,_⟩:=I.list h
 obtain ⟨its',r',⟨o',n',e',_,_,d'⟩,_⟩:=I.list h'
 rw [e] at e';cases e'
 rw [d] at d'
 injection d' with d1 _
 have:its=its':=by simpa using congrArg Array.toList d1
 subst this
 exact r.inj r'
theorem Inv.tuple_inj (I:Inv X pins σ H s) (h:SqT X.K H a xs) (h':SqT X.K H a ys):xs=ys:=by
 obtain ⟨its,r,⟨o,e,_,n,d⟩,_⟩:=I.tuple h
 obtain ⟨its',r',⟨o',e',_,n',d'⟩,_⟩:=I.tuple h'
 rw [e] at e';cases e'
 rw [d] at d'
 injection d' with d1 _
 have:its=its':=by simpa using congrArg Array.toList d1
 subst this
 exact r.inj r'
end
abbrev Cx.wish (X:Cx) (E:Value→Shared→Prop):Cx:={ X with xe:=E }
abbrev Cx.nox (X:Cx):Cx:=X.wish fun _ _=>False
theorem Cx.Ok.wish {X:Cx} (ok:X.Ok) (E:Value→Shared→Prop):(X.wish E).Ok :=
 ⟨ok.mod,ok.kind,ok.glob,ok.blt,ok.above,ok.inj,ok.has,ok.cab,ok.hd,ok.frames,ok.stk,ok.exf,ok.bs,ok.bsz,ok.noex,ok.exfs,ok.funs,ok.frf⟩
theorem Cx.Ok.unwish {X:Cx} {E:Value→Shared→Prop} (ok:(X.wish E).Ok):X.Ok :=
 ⟨ok.mod,ok.kind,ok.glob,ok.blt,ok.above,ok.inj,ok.has,ok.cab,ok.hd,ok.frames,ok.stk,ok.exf,ok.bs,ok.bsz,ok.noex,ok.exfs,ok.funs,ok.frf⟩
section
variable {X:Cx} {pins:List (Addr×Obj)} {σ:St} {H:Hp} {s:Shared} {E:Value→Shared→Prop}
theorem Inv.wish (I:Inv X pins σ H s) (E:Value→Shared→Prop):Inv (X.wish E) pins σ H s:=⟨I.ok.wish E,I.os,I.bare,I.base,I.loc,I.cell,I.free,I.freeC,I.pin,I.hok,I.len⟩
theorem Inv.unwish (I:Inv (X.wish E) pins σ H s):Inv X pins σ H s:=⟨I.ok.unwish,I.os,I.bare,I.base,I.loc,I.cell,I.free,I.freeC,I.pin,I.hok,I.len⟩
theorem SP.unwish {D:Ends} {f:Flow} {s':Shared} (h:SP (X.wish E) pins D f s'):SP X pins D f s':=by
 cases f with
 | next=>obtain ⟨σ',H',I,q⟩:=h;exact⟨σ',H',I.unwish,q⟩
 | brk=>obtain ⟨σ',H',I,q⟩:=h;exact⟨σ',H',I.unwish,q⟩
 | cont=>obtain ⟨σ',H',I,q⟩:=h;exact⟨σ',H',I.unwish,q⟩
 | ret u=>obtain ⟨v,σ',H',I,r,q⟩:=h;exact⟨v,σ',H',I.unwish,r,q⟩
theorem PE.nox {e:Expr} {t:TE} (h:PE X.nox e t):PE X e t:=fun pins s σ H Q I hw =>
 wpAny_mono (h pins s σ H Q (I.wish _) hw) (fun _ _ ⟨v,H',I',r,q⟩=>⟨v,H',I'.unwish,r,q⟩) fun _ _ z=>False.elim z
theorem PT.nox {e:Expr} {t:TT} (h:PT X.nox e t):PT X e t:=fun pins s σ H Q I hw =>
 wpAny_mono (h pins s σ H Q (I.wish _) hw) (fun _ _ ⟨H',I',q⟩=>⟨H',I'.unwish,q⟩) fun _ _ z=>False.elim z
theorem PSs.nox {st:List Stmt} {t:TS} (h:PSs X.nox st t):PSs X st t:=fun pins s σ H D I hw =>
 wpAny_mono (h pins s σ H D (I.wish _) hw) (fun _ _ q=>q.unwish) fun _ _ z=>False.elim z
end
section
variable {X:Cx} {st:Stmt} {rest:List Stmt} {t u:TS} {e:Expr} {te:TE} {pos:Pos}
def um:TS:=fun D σ H=>D.nx σ H
def tSeq (t u:TS):TS:=fun D σ H=>t { D with nx:=u D } σ H
theorem gZ:PSs X [] um:=fun _ _ σ H _ I h=>wpAny_execs_nil ⟨σ,H,I,h⟩
theorem bG (h1:PS X st t) (h2:PSs X rest u):PSs X (st :: rest) (tSeq t u):=by
 intro pins s σ H D I h
 refine wpAny_execs_cons (thn (h1 pins s σ H { D with nx:=u D } I h) fun f s1 q=>?_)
 cases f with
 | next =>
  obtain ⟨σ',H',I',q⟩:=q
  exact h2 pins s1 σ' H' D I' q
 | ret v=>exact q
 | brk=>exact q
 | cont=>exact q
theorem dn (h1:PS X st t):PSs X [st] t:=by
 intro pins s σ H D I h
 refine wpAny_execs_cons (thn (h1 pins s σ H D I h) fun f s1 q=>?_)
 cases f with
 | next=>exact wpAny_execs_nil q
 | ret v=>exact q
 | brk=>exact q
 | cont=>exact q
theorem Inv.quiet {pins:List (Addr×Obj)} {σ:St} {H:Hp} {s:Shared} (I:Inv X pins σ H s):interactive X.env=false:=by simp [interactive,I.ok.kind]
def jF (te:TE):TS:=fun D σ H=>te σ H fun _ H1=>D.nx σ H1
theorem cY (he:PE X e te) (hs:swapsWith e none pos.line X.env=pure false:=by rfl):PS X (.Expr e pos) (jF te):=by
 intro pins s σ H D I h
 exact wpAny_Expr_any (thn (he pins s σ H _ I h) fun v s1 ⟨x,H1,I1,r1,q1⟩=>⟨σ,H1,I1,q1⟩) I.quiet hs
def tRet (te:TE):TS:=fun D σ H=>te σ H D.rt
theorem i8 (he:PE X e te):PS X (.Return (some e) pos) (tRet te):=by
 intro pins s σ H D I h
 exact wpAny_Return_some (thn (he pins s σ H _ I h) fun v s1 ⟨x,H1,I1,r1,q1⟩=>⟨x,σ,H1,I1,r1,q1⟩)
def tIfS (c:TT) (t u:TS):TS:=fun D σ H=>c σ H fun b H1=>if b=true then t D σ H1 else u D σ H1
theorem qv {c:Expr} {a b:List Stmt} {tc:TT} (hc:PT X c tc) (ha:PSs X a t) (hb:PSs X b u):PS X (.If c a b pos) (tIfS tc t u):=by
 intro pins s σ H D I h
 refine wpAny_If (thn (hc pins s σ H _ I h) fun d s1 ⟨H1,I1,q1⟩=>?_)
 cases d with
 | true=>exact ha pins s1 σ H1 D I1 q1
 | false=>exact hb pins s1 σ H1 D I1 q1
def nv:TS:=fun _ _ _=>False
theorem ps_never:PS X st nv:=fun _ _ _ _ _ _ h=>h.elim
theorem gj {sts:List Stmt}:PSs X sts nv:=fun _ _ _ _ _ _ h=>h.elim
end
abbrev TG:=V→St→Hp→(St→Hp→Prop)→Prop
abbrev TGs:=List V→St→Hp→(St→Hp→Prop)→Prop
def PG (X:Cx) (target:Expr) (t:TG):Prop :=
 ∀ (pins:List (Addr×Obj)) (s:Shared) (σ:St) (H:Hp) (v:V) (u:Value) (Q:St→Hp→Prop),Inv X pins σ H s→RelV v u→t v σ H Q →
  wpAny (model X.prog X.w) X.A (assign target X.env u) (fun _ s'=>∃ σ' H',Inv X pins σ' H' s'∧Q σ' H') X.xe s
def PGs (X:Cx) (ts:List Expr) (t:TGs):Prop :=
 ∀ (pins:List (Addr×Obj)) (s:Shared) (σ:St) (H:Hp) (vs:List V) (us:List Value) (Q:St→Hp→Prop),Inv X pins σ H s→Vals vs us→t vs σ H Q →
  wpAny (model X.prog X.w) X.A (assignInOrder ((assignEach ts X.env).map (·.2)) us) (fun _ s'=>∃ σ' H',Inv X pins σ' H' s'∧Q σ' H') X.xe s
abbrev TSet:=V→V→V→Hp→(Hp→Prop)→Prop
def PSet (X:Cx) (t:TSet):Prop :=
 ∀ (pins:List (Addr×Obj)) (s:Shared) (σ:St) (H:Hp) (o i v:V) (ov iv u:Value) (Q:Hp→Prop),Inv X pins σ H s→RelV o ov→RelV i iv→RelV v u→t o i v H Q →
  wpAny (model X.prog X.w) X.A (setItem ov iv u) (fun _ s'=>∃ H',Inv X pins σ H' s'∧Q H') X.xe s
section
variable {X:Cx} {pos:Pos}
def ot (i:Nat):TG:=fun v σ H Q=>Q (σ.set i (some v)) H
theorem kI {i:Nat} {x:Str} (hN:X.N.Nodup) (hi:X.N[i]?=some x) (hx:Loc X.env.scope x) (hf:X.fn x=true∨X.env.scope.names.lookup x=some .local :=by walk_at "v1"):PG X (.Name x pos) (ot i):=by
 intro pins s σ H v u Q I r h
 exact wpAny_assign_Name (dU I hN hi hx r (fun s' I'=>⟨_,H,I',h⟩) hf)
def gNil:TGs:=fun vs σ H Q=>vs=[]∧Q σ H
def t9 (t:TG) (u:TGs):TGs:=fun vs σ H Q=>∃ v r,vs=v :: r∧t v σ H fun σ' H'=>u r σ' H' Q
theorem qi:PGs X [] gNil:=by
 intro pins s σ H vs us Q I r h
 obtain ⟨e,h⟩:=h
 subst e
 cases r
 exact assignInOrder_nil ⟨σ,H,I,h⟩
theorem m7 {e:Expr} {es:List Expr} {t:TG} {u:TGs} (h1:PG X e t) (h2:PGs X es u)
  (hs:(assignEach (e :: es) X.env).map (·.2)=assign e X.env :: (assignEach es X.env).map (·.2):=by rfl):PGs X (e :: es) (t9 t u):=by
 intro pins s σ H vs us Q I r h
 obtain ⟨v,vr,e1,h⟩:=h
 subst e1
 cases r with
 | cons r rr =>
  rw [hs]
  refine assignInOrder_cons (thn (h1 pins s σ H _ _ _ I r h) fun _ s1 ⟨σ1,H1,I1,q1⟩=>?_)
  exact h2 pins s1 σ1 H1 _ _ Q I1 rr q1
def gTup (K:PySem.W.Frag) (n:Nat) (t:TGs):TG:=fun v σ H Q=>∃ a xs,v=.ref a∧SqT K H a xs∧xs.length=n∧t xs σ H Q
theorem tq {es:List Expr} {k:Nat} {t:TGs} {n:Nat} (hc:X.calm=true) (h:PGs X es t)
  (hn:(assignEach es X.env).length=n:=by rfl) (hst:(assignEach es X.env).findIdx? (·.1)=none:=by rfl):PG X (.Tuple es k pos) (gTup X.K n t):=by
 intro pins s σ H v u Q I r hw
 obtain ⟨a,xs,e1,hq,hl,hw⟩:=hw
 subst e1
 cases r
 obtain ⟨its,rv,ht,hz⟩:=I.tuple hq
 refine assign_Tuple_tuple (I.ok.hd hc) ht (by simp [hn,← hl,rv.length]) hst fun h' hx=>?_
 have I1:Inv X pins σ H { s with heap:=h' }:=I.kept (t':=s.toks) fun b o e=>hx b o (Nat.ne_of_lt (Heap.lt_size e)) e
 exact h pins _ σ H xs _ Q I1 (by simpa using rv) hw
def gSub (to ti:TE) (t:TSet):TG:=fun v σ H Q=>to σ H fun o H1=>ti σ H1 fun i H2=>t o i v H2 fun H3=>Q σ H3
theorem rT {o i:Expr} {to ti:TE} {t:TSet} (ho:PE X o to) (hi:PE X i ti) (hs:PSet X t)
    (ha:∀ v,assign (.Subscript o i pos) X.env v=(do
      let ov←holding [v] (eval o X.env)
      let iv←holding [v,ov] (eval i X.env)
      standAt pos
      holding [v,ov,iv] (setItem ov iv v)
      release [v,ov,iv] []):=by intro _;rfl):PG X (.Subscript o i pos) (gSub to ti t):=by
  intro pins s σ H v u Q I r h
  rw [ha]
  refine wpAny_bind (wpAny_holding (thn (ho pins s σ H _ I h) fun ov s1 ⟨x,H1,I1,r1,q1⟩=>?_))
  refine wpAny_bind (wpAny_holding (thn (hi pins s1 σ H1 _ I1 q1) fun iv s2 ⟨y,H2,I2,r2,q2⟩=>?_))
  refine wpAny_bind (wpAny_standAt (wpAny_bind (wpAny_holding (thn (hs pins s2 σ H2 x y v ov iv u _ I2 r1 r2 r q2) fun _ s3 ⟨H3,I3,q3⟩=>?_))))
  exact wpAny_release ⟨σ,H3,I3,q3⟩
def tAsg (te:TE) (g:TG):TS:=fun D σ H=>te σ H fun x H1=>g x σ H1 D.nx
theorem nP {tg e:Expr} {te:TE} {g:TG} (he:PE X e te) (hg:PG X tg g) (hs:swapsWithSole [tg] e pos.line X.env=pure false:=by rfl) (hw:swappedStores [tg] e X.env=pure none:=by rfl)
  (h1:(assignEach [tg] X.env).map (·.2)=[assign tg X.env]:=by rfl):PS X (.Assign [tg] e pos) (tAsg te g):=by
 intro pins s σ H D I h
 refine wpAny_Assign_stores (thn (he pins s σ H _ I h) fun v s1 ⟨x,H1,I1,r1,q1⟩=>?_) hs hw
 rw [h1]
 exact thn (hg pins s1 σ H1 x v _ I1 r1 q1) fun _ s2 q=>q
theorem et {i:Nat} {x:Str} {e:Expr} {te:TE} {pos':Pos} (hN:X.N.Nodup) (hi:X.N[i]?=some x) (hx:Loc X.env.scope x) (he:PE X e te) (hs:swapsWith e (some (.Name x pos')) pos.line X.env=pure false:=by rfl) (hf:X.fn x=true∨X.env.scope.names.lookup x=some .local :=by walk_at "v1") :
  PS X (.Assign [.Name x pos'] e pos) (tAsg te (ot i)):=by
 intro pins s σ H D I h
 refine wpAny_Assign_Name (thn (he pins s σ H _ I h) fun v s1 ⟨y,H1,I1,r1,q1⟩=>?_) hs
 exact dU I1 hN hi hx r1 (fun s2 I2=>⟨_,H1,I2,q1⟩) hf
end
section
variable {X:Cx} {pos:Pos}
def tt (c:TT) (tb:TS):TS:=fun D σ H=>∃ W:Nat→St→Hp→Prop,(∃ m,W m σ H)∧∀ m σ H,W m σ H →
 c σ H fun b H1=>if b=true then ∃ N:St→Hp→Prop,(∀ σ' H',N σ' H'→∃ m',m' < m∧W m' σ' H')∧tb { D with nx:=N,ct:=N,bk:=D.nx } σ H1 else D.nx σ H1
theorem my {c:Expr} {body:List Stmt} {tc:TT} {tb:TS} (hp:PassesOwn (model X.prog X.w) X.A X.env X.xe) (hc:PT X c tc) (hb:PSs X body tb):PS X (.While c body [] pos) (tt tc tb):=by
 intro pins s σ H D I h
 obtain ⟨W,⟨m0,w0⟩,turn⟩:=h
 refine wpAny_While (codeAny_whileLoop (fun n s'=>∃ σ' H',Inv X pins σ' H' s'∧W n σ' H') ?_ m0 ⟨σ,H,I,w0⟩)
 rintro n s1 ⟨σ1,H1,I1,w1⟩
 refine wpAny_passesOwn hp (thn (hc pins s1 σ1 H1 _ I1 (turn n σ1 H1 w1)) fun b s2 ⟨H2,I2,q2⟩=>?_)
 cases b with
 | true =>
  obtain ⟨N,hN,q2⟩:=q2
  rw [if_pos rfl]
  refine wpAny_passesOwn hp (thn (hb pins s2 σ1 H2 _ I2 q2) fun f s3 q3=>?_)
  cases f with
  | next =>
   obtain ⟨σ3,H3,I3,n3⟩:=q3
   obtain ⟨m',hm,w3⟩:=hN σ3 H3 n3
   exact⟨m',hm,σ3,H3,I3,w3⟩
  | cont =>
   obtain ⟨σ3,H3,I3,n3⟩:=q3
   obtain ⟨m',hm,w3⟩:=hN σ3 H3 n3
   exact⟨m',hm,σ3,H3,I3,w3⟩
  | brk=>exact q3
  | ret v=>exact q3
 | false =>
  rw [if_neg Bool.false_ne_true]
  exact wpAny_execs_nil ⟨σ1,H2,I2,q2⟩
end
structure It where
 go:Nat→Hp→Prop
 yld:Nat→Hp→V→Hp→Prop
 stop:Nat→Hp→Prop
def FpOk (X:Cx) (pins:List (Addr×Obj)) (H:Hp) (b:Addr):Prop :=
 H b=none∧b≠X.env.locals∧b∉X.fs∧(b∈X.ex∨X.s₀.heap.objs.size≤b)∧(∀ x c,X.env.cells.lookup x=some c→c≠b)∧∀ p∈X.pn++pins,p.1≠b
theorem Inv.fpOk {X:Cx} {pins:List (Addr×Obj)} {σ:St} {H H':Hp} {s:Shared} {b:Addr} (I:Inv X pins σ H s) (hb:s.heap.objs.size≤b) (hn:H' b=none):FpOk X pins H' b:=by
 refine⟨hn,Nat.ne_of_gt (Nat.lt_of_lt_of_le I.lt hb),I.nofs hb,.inr (uD I.sz hb),fun x c e z=>?_,fun p hp z=>?_⟩
 ·obtain ⟨v,q⟩:=I.cell x c e
  exact absurd (Nat.lt_of_lt_of_le q.lt (by rw [z];exact hb)) (Nat.lt_irrefl _)
 ·exact absurd (Nat.lt_of_lt_of_le (Heap.lt_size (I.pin p hp).1) (by rw [z];exact hb)) (Nat.lt_irrefl _)
structure Turn (P:Program) (w:World) (K:PySem.W.Frag) (tg:Expr) (J:It) (fp:List Addr) (it:Addr) (tn:Nat→Heap→Prop):Prop where
 mem:it∈fp
 obj:∀ i h,tn i h→∀ b∈fp,∃ o,h.get? b=some o∧∀ v,o.data≠.cell v
 keep:∀ i h h',tn i h→(∀ b∈fp,∀ o,h.get? b=some o→h'.get? b=some o)→tn i h'
 item:∀ (X:Cx),X.prog=P→X.w=w→X.K=K→X.calm=true→∀ (i:Nat) (pins:List (Addr×Obj)) (s:Shared) (σ:St) (H:Hp) (E:Value→Shared→Prop),Inv X pins σ H s→(∀ b∈fp,FpOk X pins H b)→tn i s.heap→J.go i H →
  wpAny (model P w) X.A (pyNext (.ref it)) (fun r s1=>∃ u,r=some u ∧
   wpAny (model P w) X.A (letOwnedTupleGo tg (.ref it) u) (fun _ s2=>∃ x H',Inv X pins σ H' s2∧RelV x u∧J.yld i H x H'∧tn (i + 1) s2.heap∧∀ b∈fp,H' b=none) E s1) E s
 done:∀ (X:Cx),X.prog=P→X.w=w→X.K=K→X.calm=true→∀ (i:Nat) (pins:List (Addr×Obj)) (s:Shared) (σ:St) (H:Hp) (E:Value→Shared→Prop),Inv X pins σ H s→(∀ b∈fp,FpOk X pins H b)→tn i s.heap→J.stop i H →
  wpAny (model P w) X.A (pyNext (.ref it)) (fun r s1=>r=none∧Inv X pins σ H s1) E s
 self:∀ (A:Around) (i:Nat) (s:Shared) (Q:Value→Shared→Prop) (E:Value→Shared→Prop),tn i s.heap→Q (.ref it) s→wpAny (model P w) A (pyIter (.ref it)) Q E s
abbrev TI:=St→Hp→(It→Hp→Prop)→Prop
def PIE (X:Cx) (pins:List (Addr×Obj)) (σ:St) (tg:Expr) (R:It→Hp→Prop) (itv:Value) (s2:Shared):Prop :=
 ∃ (it:Addr) (fp:List Addr) (tn:Nat→Heap→Prop) (J:It) (H':Hp),itv=.ref it∧Inv X pins σ H' s2∧Turn X.prog X.w X.K tg J fp it tn∧tn 0 s2.heap∧(∀ b∈fp,FpOk X pins H' b)∧R J H'
def PI (X:Cx) (tg iter:Expr) (wi:TI):Prop :=
 ∀ (pins:List (Addr×Obj)) (s:Shared) (σ:St) (H:Hp) (R:It→Hp→Prop),Inv X pins σ H s→wi σ H R →
  wpAny (model X.prog X.w) X.A (eval iter X.env) (fun v s1=>wpAny (model X.prog X.w) X.A (pyIter v) (PIE X pins σ tg R) X.xe s1) X.xe s
theorem qz {M:Model} {A:Around} {E:Value→Shared→Prop} {s:Shared} {tg:Expr} {it:Addr} {u:Value} {o:Obj} {n:String} {vs:Array Value} {Q:Unit→Shared→Prop} (ho:s.heap.get? it=some o) (hc:o.cls=.type n) (hd:o.data=.fields vs)
    (hn:["enumerate","zip","dict_itemiterator","dict_reverseitemiterator","odict_iterator","itertools.zip_longest","itertools.pairwise"].contains n=false) (hQ:Q () s):wpAny M A (letOwnedTupleGo tg (.ref it) u) Q E s:=by
  unfold letOwnedTupleGo
  cases tg<;>first
    | exact wpAny_pure hQ
    | (cases u<;>first
        | exact wpAny_pure hQ
        | (refine wpAny_bind (wpAny_load ho ?_)
           rw [hc,hd]
           show wpAny M A (if (["enumerate","zip","dict_itemiterator","dict_reverseitemiterator","odict_iterator","itertools.zip_longest","itertools.pairwise"].contains n && vs[0]? == some (rawInt _))=true then _ else _) Q E s
           rw [if_neg (by intro h;rw [hn,Bool.false_and] at h;cases h)]
           exact wpAny_pure hQ))
def Itl (K:PySem.W.Frag) (a:Addr):It :=
 ⟨fun i H=>∃ xs x,SqL K H a xs∧xs[i]?=some x,fun i H x H'=>H'=H∧∀ xs,SqL K H a xs→xs[i]?=some x,fun i H=>∃ xs,SqL K H a xs∧xs.length≤i⟩
def Itt (K:PySem.W.Frag) (a:Addr):It :=
 ⟨fun i H=>∃ xs x,SqT K H a xs∧xs[i]?=some x,fun i H x H'=>H'=H∧∀ xs,SqT K H a xs→xs[i]?=some x,fun i H=>∃ xs,SqT K H a xs∧xs.length≤i⟩
def Itr (lo:Int) (n:Nat):It:=⟨fun i _=>i < n,fun i H x H'=>H'=H∧x=.int (lo + i),fun i _=>n≤i⟩
theorem lr {P:Program} {w:World} {K:PySem.W.Frag} {tg:Expr} (a it:Addr):Turn P w K tg (Itl K a) [it] it (fun i h=>h.IsListIter it a i) where
 mem:=by simp
 obj:=fun i h st b hb=>by
  have e:b=it:=by simpa using hb
  subst e
  obtain ⟨o,e,c,d⟩:=st
  exact⟨o,e,fun v z=>by rw [d] at z;cases z⟩
 keep:=fun i h h' st k=>st.at fun o e=>k it (by simp) o e
 item:=by
  intro X hP hw hK hc i pins s σ H E I hf st hg
  subst hP hw hK
  obtain ⟨xs,x,hq,hx⟩:=hg
  obtain ⟨its,rv,p,hz⟩:=I.list hq
  obtain ⟨u,hu,ru⟩:=rv.get hx
  obtain ⟨f0,f1,f2,f3,f4,f5⟩:=hf it (by simp)
  refine wpAny_pyNext_list_item st p.isList (x:=u) (by simpa using hu) fun h' st' sb=>?_
  have I1:Inv X pins σ H { s with heap:=h' }:=I.turned (t':=s.toks) (fun b o hb e=>(sb.2 b hb).trans e) f0 f1 f3 f4 f5
  obtain ⟨o,e,c,d⟩:=id st'
  exact⟨u,rfl,qz (s:={ s with heap:=h' }) e c d (by decide) ⟨x,H,I1,ru,⟨rfl,fun ys hy=>by rw [I.list_inj hy hq];exact hx⟩,st',fun b hb=>(hf b hb).1⟩⟩
 done:=by
  intro X hP hw hK hc i pins s σ H E I hf st hg
  subst hP hw hK
  obtain ⟨xs,hq,hx⟩:=hg
  obtain ⟨its,rv,p,hz⟩:=I.list hq
  obtain ⟨f0,f1,f2,f3,f4,f5⟩:=hf it (by simp)
  have hl:=rv.length
  exact wpAny_pyNext_list_end (I.ok.hd hc) st p.isList (by simp;omega) fun h' eb=>⟨rfl,I.turned (t':=s.toks) (fun b o hb e=>eb b o hb e) f0 f1 f3 f4 f5⟩
 self:=fun _ _ _ _ _ st h=>wpAny_pyIter_listiter st h
theorem jM {P:Program} {w:World} {K:PySem.W.Frag} {tg:Expr} (a it:Addr):Turn P w K tg (Itt K a) [it] it (fun i h=>h.IsTupleIter it a i) where
 mem:=by simp
 obj:=fun i h st b hb=>by
  have e:b=it:=by simpa using hb
  subst e
  obtain ⟨o,e,c,d⟩:=st
  exact⟨o,e,fun v z=>by rw [d] at z;cases z⟩
 keep:=fun i h h' st k=>st.at fun o e=>k it (by simp) o e
 item:=by
  intro X hP hw hK hc i pins s σ H E I hf st hg
  subst hP hw hK
  obtain ⟨xs,x,hq,hx⟩:=hg
  obtain ⟨its,rv,p,hz⟩:=I.tuple hq
  obtain ⟨u,hu,ru⟩:=rv.get hx
  obtain ⟨f0,f1,f2,f3,f4,f5⟩:=hf it (by simp)
  refine wpAny_pyNext_tuple_item st (show s.heap.IsTuple a its.toArray from p) (x:=u) (by simpa using hu) fun h' st' sb=>?_
  have I1:Inv X pins σ H { s with heap:=h' }:=I.turned (t':=s.toks) (fun b o hb e=>(sb.2 b hb).trans e) f0 f1 f3 f4 f5
  obtain ⟨o,e,c,d⟩:=id st'
  exact⟨u,rfl,qz (s:={ s with heap:=h' }) e c d (by decide) ⟨x,H,I1,ru,⟨rfl,fun ys hy=>by rw [I.tuple_inj hy hq];exact hx⟩,st',fun b hb=>(hf b hb).1⟩⟩
 done:=by
  intro X hP hw hK hc i pins s σ H E I hf st hg
  subst hP hw hK
  obtain ⟨xs,hq,hx⟩:=hg
  obtain ⟨its,rv,p,hz⟩:=I.tuple hq
  obtain ⟨f0,f1,f2,f3,f4,f5⟩:=hf it (by simp)
  have hl:=rv.length
  exact wpAny_pyNext_tuple_end (I.ok.hd hc) st (show s.heap.IsTuple a its.toArray from p) (by simp;omega) fun h' eb=>⟨rfl,I.turned (t':=s.toks) (fun b o hb e=>eb b o hb e) f0 f1 f3 f4 f5⟩
 self:=fun _ _ _ _ _ st h=>wpAny_pyIter_tupleiter st h
theorem js {P:Program} {w:World} {K:PySem.W.Frag} {tg:Expr} (it:Addr) (lo:Int) (n:Nat):Turn P w K tg (Itr lo n) [it] it (fun i h=>IsRangeIter h it (lo + (i:Nat) * 1) ((n:Int) - (i:Nat)) 1) where
 mem:=by simp
 obj:=fun i h st b hb=>by
  have e:b=it:=by simpa using hb
  subst e
  exact⟨_,st,fun v z=>by
   have z':Data.fields _=Data.cell v:=z
   cases z'⟩
 keep:=fun i h h' st k=>k it (by simp) _ st
 item:=by
  intro X hP hw hK hc i pins s σ H E I hf st hg
  subst hP hw hK
  obtain ⟨f0,f1,f2,f3,f4,f5⟩:=hf it (by simp)
  have W:=Walks.range (prog:=X.prog) (w:=X.w) (I.ok.hd hc) it lo 1 n
  refine W.item i s _ _ hg st fun v h' tk hv st' kk=>?_
  obtain ⟨t,rfl⟩:=hv
  have I1:Inv X pins σ H { s with heap:=h',toks:=tk }:=I.turned (fun b o hb e=>kk b o (by simpa using hb) e) f0 f1 f3 f4 f5
  refine⟨_,rfl,qz (s:={ s with heap:=h',toks:=tk }) (n:="range_iterator") st' rfl rfl (by decide) ⟨.int (lo + i),H,I1,⟨t,?_⟩,⟨rfl,rfl⟩,st',fun b hb=>(hf b hb).1⟩⟩
  rw [Int.mul_one]
 done:=by
  intro X hP hw hK hc i pins s σ H E I hf st hg
  subst hP hw hK
  obtain ⟨f0,f1,f2,f3,f4,f5⟩:=hf it (by simp)
  exact wpAny_pyNext_range_end (I.ok.hd hc) st (by have:n≤i:=hg;omega) fun h' eb=>⟨rfl,I.turned (t':=s.toks) (fun b o hb e=>eb b o hb e) f0 f1 f3 f4 f5⟩
 self:=fun _ _ _ _ _ st h=>wpAny_pyIter_rangeiter st h
end L2
namespace L2
open PySem PySem.Spec PyProof.Rows
section
variable {X:Cx} {tg:Expr}
def qN (K:PySem.W.Frag) (tl:TE):TI:=fun σ H R=>tl σ H fun x H1=>∃ a,x=.ref a∧(∃ xs,SqL K H1 a xs)∧R (Itl K a) H1
def iTup (K:PySem.W.Frag) (tl:TE):TI:=fun σ H R=>tl σ H fun x H1=>∃ a,x=.ref a∧(∃ xs,SqT K H1 a xs)∧R (Itt K a) H1
theorem iq {l:Expr} {tl:TE} (hl:PE X l tl):PI X tg l (qN X.K tl):=by
 intro pins s σ H R I h
 refine thn (hl pins s σ H _ I h) fun v s1 ⟨x,H1,I1,r1,q1⟩=>?_
 obtain ⟨a,e,⟨xs,hq⟩,q⟩:=q1
 subst e
 cases r1
 obtain ⟨its,rv,p,hz⟩:=I1.list hq
 refine wpAny_pyIter_list p.isList ?_
 refine⟨s1.heap.objs.size,[s1.heap.objs.size],_,_,H1,rfl,I1.kept (t':=s1.toks) fun b o e=>uE _ e,lr a _,⟨_,uW _ rfl,rfl,rfl⟩,fun b hb=>?_,q⟩
 have e:b=s1.heap.objs.size:=by simpa using hb
 subst e
 exact I1.fpOk (Nat.le_refl _) (I1.hok.fresh (Nat.le_refl _))
theorem tJ {l:Expr} {tl:TE} (hl:PE X l tl):PI X tg l (iTup X.K tl):=by
 intro pins s σ H R I h
 refine thn (hl pins s σ H _ I h) fun v s1 ⟨x,H1,I1,r1,q1⟩=>?_
 obtain ⟨a,e,⟨xs,hq⟩,q⟩:=q1
 subst e
 cases r1
 obtain ⟨its,rv,p,hz⟩:=I1.tuple hq
 refine wpAny_pyIter_tuple (show s1.heap.IsTuple a its.toArray from p) ?_
 refine⟨s1.heap.objs.size,[s1.heap.objs.size],_,_,H1,rfl,I1.kept (t':=s1.toks) fun b o e=>uE _ e,jM a _,⟨_,uW _ rfl,rfl,rfl⟩,fun b hb=>?_,q⟩
 have e:b=s1.heap.objs.size:=by simpa using hb
 subst e
 exact I1.fpOk (Nat.le_refl _) (I1.hok.fresh (Nat.le_refl _))
theorem mT {pins:List (Addr×Obj)} {σ:St} {H:Hp} {s:Shared} {R:It→Hp→Prop} {E:Value→Shared→Prop} {lo hi:Int} {t u v:Tok} {tk:Nat} (I:Inv X pins σ H s) (h1:-(2 ^ 62)≤lo) (h2:lo < 2 ^ 62) (h3:-(2 ^ 62)≤hi) (h4:hi < 2 ^ 62)
  (q:R (Itr lo (hi - lo).toNat) H):wpAny (model X.prog X.w) X.A (pyIter (.ref s.heap.objs.size)) (PIE X pins σ tg R) E { s with heap:=s.heap.push { cls:=.type "range",data:=.fields #[.int lo t,.int hi u,.int 1 v] },toks:=tk }:=by
 refine wpAny_pyIter_range (IsRange.new ..) (small_one h1 h2 h3 h4) ?_
 have I1:Inv X pins σ H { s with heap:=s.heap.push { cls:=.type "range",data:=.fields #[.int lo t,.int hi u,.int 1 v] },toks:=tk }:=I.kept fun b o e=>uE _ e
 refine⟨(s.heap.push { cls:=.type "range",data:=.fields #[.int lo t,.int hi u,.int 1 v] }).objs.size,[(s.heap.push { cls:=.type "range",data:=.fields #[.int lo t,.int hi u,.int 1 v] }).objs.size],_,_,H,rfl,
  I1.kept (t':=tk) fun b o e=>uE _ e,js _ lo (hi - lo).toNat,?_,fun b hb=>?_,q⟩
 ·have e1:lo + ((0:Nat):Int) * 1=lo:=by simp
  have e2:(((hi - lo).toNat:Nat):Int) - ((0:Nat):Int)=Builtin.Range.rangeSize lo hi 1:=by rw [rangeSize_one];split<;>omega
  show IsRangeIter _ _ (lo + ((0:Nat):Int) * 1) ((((hi - lo).toNat:Nat):Int) - ((0:Nat):Int)) 1
  rw [e1,e2]
  exact uW _ rfl
 ·have e:b=(s.heap.push { cls:=.type "range",data:=.fields #[.int lo t,.int hi u,.int 1 v] }).objs.size:=by simpa using hb
  subst e
  exact I1.fpOk (Nat.le_refl _) (I1.hok.fresh (Nat.le_refl _))
def ud (ta:TA):TI:=fun σ H R=>ta σ H fun vs H1=>∃ j:Int,vs=[.int j]∧-(2 ^ 62)≤j∧j < 2 ^ 62∧R (Itr 0 j.toNat) H1
theorem gO {a:Expr} {ta:TA} {p pos:Pos} (hg:Gl X "range") (hm:X.mg "range"=none) (ha:PA X [a] ta) (hs:starEach [a] X.env=[(false,eval a X.env)]:=by rfl):PI X tg (.Call (.Name "range" p) [a] [] pos) (ud ta):=by
 intro pins s σ H R I h
 refine Call_ (i5 I hg hm boot_range (PyProof.Rows.callWith_type1 (thn (ha pos pins s σ H _ I h) fun us s1 ⟨vs,H1,I1,r1,q1⟩=>?_) hs rfl))
 obtain ⟨j,e,q1,q2,q⟩:=q1
 subst e
 cases r1 with
 | cons r rr =>
  cases rr
  obtain ⟨t,rfl⟩:=r
  exact call_range_1 (mT I1 (by omega) (by omega) q1 q2 (by simpa using q))
def tFor (wi:TI) (g:TG) (tb:TS):TS:=fun D σ H=>wi σ H fun J H1=>∃ W:Nat→Nat→St→Hp→Prop,(∃ m,W 0 m σ H1)∧∀ i m σ H,W i m σ H →
 (J.stop i H∧D.nx σ H)∨(J.go i H∧∃ N:St→Hp→Prop,(∀ σ' H',N σ' H'→∃ m',m' < m∧W (i + 1) m' σ' H')∧∀ x H',J.yld i H x H'→g x σ H' fun σ2 H2=>tb { D with nx:=N,ct:=N,bk:=D.nx } σ2 H2)
def gF (fp:List Addr) (h:Heap):List (Addr×Obj):=fp.filterMap fun b=>(h.get? b).map fun o=>(b,o)
theorem cJ {fp:List Addr} {h:Heap} {b:Addr} {o:Obj} (hb:b∈fp) (e:h.get? b=some o):(b,o)∈gF fp h:=List.mem_filterMap.mpr ⟨b,hb,by rw [e];rfl⟩
theorem li {fp:List Addr} {h:Heap} {p:Addr×Obj} (hp:p∈gF fp h):p.1∈fp∧h.get? p.1=some p.2:=by
 obtain ⟨b,hb,e⟩:=List.mem_filterMap.mp hp
 cases q:h.get? b with
 | none=>rw [q] at e;cases e
 | some o =>
  rw [q] at e
  have e':(b,o)=p:=Option.some.inj e
  subst e'
  exact⟨hb,q⟩
theorem Inv.pinned {pins:List (Addr×Obj)} {σ:St} {H:Hp} {s:Shared} {fp:List Addr} (I:Inv X pins σ H s) (hf:∀ b∈fp,FpOk X pins H b) (ho:∀ b∈fp,∃ o,s.heap.get? b=some o∧∀ v,o.data≠.cell v):Inv X (pins++gF fp s.heap) σ H s :=
 I.pins_of fun p hp=>(uJ.mp hp).elim (fun z=>I.pin p (uH _ z)) fun z=>by
  obtain ⟨hb,e⟩:=li z
  obtain ⟨f0,f1,f2,_⟩:=hf p.1 hb
  obtain ⟨o,e',d⟩:=ho p.1 hb
  rw [e] at e';cases e'
  exact⟨e,f0,f1,f2,d⟩
theorem Inv.unpinned {pins pl:List (Addr×Obj)} {σ:St} {H:Hp} {s:Shared} (I:Inv X (pins++pl) σ H s):Inv X pins σ H s:=I.pins_of fun p hp=>I.pin p (uH _ (uI _ hp))
theorem ku {iter:Expr} {body:List Stmt} {wi:TI} {g:TG} {tb:TS} {pos:Pos} (hp:PassesOwn (model X.prog X.w) X.A X.env X.xe) (hc:X.calm=true) (hi:PI X tg iter wi) (hg:PG X tg g) (hb:PSs X body tb)
  (hs:∀ x,foldedSetIterable iter X.env x=pure x:=by intro _;rfl):PS X (.For tg iter body [] pos) (tFor wi g tb):=by
 intro pins s σ H D I h
 refine wpAny_For (thn (hi pins s σ H _ I h) fun v s1 h1=>thn h1 fun itv s2 h2=>?_) hs
 obtain ⟨it,fp,tn,J,H2,e,I2,T,st2,f2,W,⟨m0,w0⟩,turn⟩:=h2
 subst e
 have stat:∀ {H':Hp},(∀ b∈fp,H' b=none)→∀ b∈fp,FpOk X pins H' b:=fun hn b hb=>⟨hn b hb,(f2 b hb).2⟩
 refine codeAny_forLoop_any (fun n s'=>∃ i σ' H',Inv X pins σ' H' s'∧tn i s'.heap∧(∀ b∈fp,H' b=none)∧W i n σ' H') ?_ m0 ⟨0,σ,H2,I2,st2,fun b hb=>(f2 b hb).1,w0⟩
 rintro n s3 ⟨i,σ3,H3,I3,st3,fr3,w3⟩
 rcases turn i n σ3 H3 w3 with ⟨stop,qn⟩ | ⟨go,N,hN,step⟩
 ·refine wpAny_passesOwn hp (thn (T.done X rfl rfl rfl hc i pins s3 σ3 H3 X.xe I3 (stat fr3) st3 stop) fun r s4 ⟨hr,I4⟩=>?_)
  subst hr
  exact wpAny_execs_nil ⟨σ3,H3,I4,qn⟩
 ·refine wpAny_passesOwn hp (thn (T.item X rfl rfl rfl hc i pins s3 σ3 H3 X.xe I3 (stat fr3) st3 go) fun r s4 ⟨u,hr,h4⟩=>?_)
  subst hr
  refine wpAny_passesOwn hp (thn h4 fun _ s5 ⟨x,H5,I5,r5,y5,st5,fr5⟩=>?_)
  have I5':=I5.pinned (stat fr5) (T.obj _ _ st5)
  refine wpAny_passesOwn hp (thn (hg _ s5 σ3 H5 x u _ I5' r5 (step x H5 y5)) fun _ s6 ⟨σ6,H6,I6,q6⟩=>?_)
  refine wpAny_passesOwn hp (thn (hb _ s6 σ6 H6 _ I6 q6) fun f s7 q7=>?_)
  have again:∀ {σ7:St} {H7:Hp},Inv X (pins++gF fp s5.heap) σ7 H7 s7→N σ7 H7→∃ m,m < n∧∃ i σ' H',Inv X pins σ' H' s7∧tn i s7.heap∧(∀ b∈fp,H' b=none)∧W i m σ' H':=fun {σ7 H7} I7 n7=>by
   obtain ⟨m',hm,w7⟩:=hN σ7 H7 n7
   refine⟨m',hm,i + 1,σ7,H7,I7.unpinned,T.keep _ _ _ st5 fun b hb o e=>(I7.pin (b,o) (uH _ (uH _ (cJ hb e)))).1,fun b hb=>?_,w7⟩
   obtain ⟨o,e,d⟩:=T.obj _ _ st5 b hb
   exact (I7.pin (b,o) (uH _ (uH _ (cJ hb e)))).2.1
  cases f with
  | next=>obtain ⟨σ7,H7,I7,n7⟩:=q7;exact again I7 n7
  | cont=>obtain ⟨σ7,H7,I7,n7⟩:=q7;exact again I7 n7
  | brk=>obtain ⟨σ7,H7,I7,q7⟩:=q7;exact⟨σ7,H7,I7.unpinned,q7⟩
  | ret v=>obtain ⟨x7,σ7,H7,I7,r7,q7⟩:=q7;exact⟨x7,σ7,H7,I7.unpinned,r7,q7⟩
end
theorem l7 {lo:Int} {n:Nat} {g:TG} {tb:TS} {D:Ends} {σ:St} {H:Hp} (Pv:Nat→St→Hp→Prop) (h0:Pv 0 σ H)
  (hs:∀ i σ H,i < n→Pv i σ H→g (.int (lo + i)) σ H fun σ2 H2=>tb { D with nx:=Pv (i + 1),ct:=Pv (i + 1),bk:=D.nx } σ2 H2) (hd:∀ σ H,Pv n σ H→D.nx σ H) :
  ∃ W:Nat→Nat→St→Hp→Prop,(∃ m,W 0 m σ H)∧∀ i m σ H,W i m σ H →
   ((Itr lo n).stop i H∧D.nx σ H)∨((Itr lo n).go i H∧∃ N:St→Hp→Prop,(∀ σ' H',N σ' H'→∃ m',m' < m∧W (i + 1) m' σ' H')∧∀ x H',(Itr lo n).yld i H x H'→g x σ H' fun σ2 H2=>tb { D with nx:=N,ct:=N,bk:=D.nx } σ2 H2):=by
 refine⟨fun i m σ H=>m=n - i∧i≤n∧Pv i σ H,⟨n,by simp,Nat.zero_le _,h0⟩,?_⟩
 rintro i m σ H ⟨rfl,hi,p⟩
 by_cases hlt:i < n
 ·refine .inr ⟨hlt,Pv (i + 1),fun σ' H' p'=>⟨n - (i + 1),by omega,rfl,hlt,p'⟩,fun x H' y=>?_⟩
  obtain ⟨e,y⟩:=y
  subst e y
  exact hs i σ _ hlt p
 ·have e:i=n:=by omega
  subst e
  exact .inl ⟨Nat.le_refl _,hd σ H p⟩
end L2
namespace L2
open PySem PySem.Spec PyProof.Rows
abbrev R2:=V→V→Hp→VK→Prop
def OpR (X:Cx) (f:Value→Value→Sem Value) (r:R2):Prop :=
 ∀ (pins:List (Addr×Obj)) (s:Shared) (σ:St) (H:Hp) (x y:V) (v u:Value) (Q:VK),Inv X pins σ H s→RelV x v→RelV y u→r x y H Q →
  wpAny (model X.prog X.w) X.A (f v u) (EP X pins σ Q) X.xe s
def UnR (X:Cx) (f:Value→Sem Value) (r:V→Hp→VK→Prop):Prop :=
 ∀ (pins:List (Addr×Obj)) (s:Shared) (σ:St) (H:Hp) (x:V) (v:Value) (Q:VK),Inv X pins σ H s→RelV x v→r x H Q →
  wpAny (model X.prog X.w) X.A (f v) (EP X pins σ Q) X.xe s
def bx (X:Cx) (f:Value) (r:List V→Hp→VK→Prop):Prop :=
 ∀ (pins:List (Addr×Obj)) (s:Shared) (σ:St) (H:Hp) (xs:List V) (us:List Value) (Q:VK),Inv X pins σ H s→Vals xs us→r xs H Q →
  wpAny (model X.prog X.w) X.A (call f us) (EP X pins σ Q) X.xe s
def tOp (r:R2) (ta tb:TE):TE:=fun σ H Q=>ta σ H fun x H1=>tb σ H1 fun y H2=>r x y H2 Q
def tUn (r:V→Hp→VK→Prop) (ta:TE):TE:=fun σ H Q=>ta σ H fun x H1=>r x H1 Q
def rI (C:Int→Int→Prop) (g:Int→Int→V):R2:=fun x y H Q=>∃ i j,x=.int i∧y=.int j∧C i j∧Q (g i j) H
def rI0 (g:Int→Int→V):R2:=fun x y H Q=>∃ i j,x=.int i∧y=.int j∧Q (g i j) H
def rU (g:Int→V):V→Hp→VK→Prop:=fun x H Q=>∃ i,x=.int i∧Q (g i) H
section
variable {X:Cx} {a b c:Expr} {ta tb tc:TE} {pos:Pos}
theorem binT (ha:PE X a ta) (hb:PE X b tb) {pins:List (Addr×Obj)} {s:Shared} {σ:St} {H:Hp} {R:V→V→Hp→Prop} (I:Inv X pins σ H s)
  (h:ta σ H fun x H1=>tb σ H1 fun y H2=>R x y H2) {Q:Value→Shared→Prop} {f:Value→Value→Sem Value}
  (hf:∀ v u s2 x y H2,Inv X pins σ H2 s2→RelV x v→RelV y u→R x y H2→wpAny (model X.prog X.w) X.A (f v u) Q X.xe s2) :
  wpAny (model X.prog X.w) X.A (eval a X.env) (fun v s₁=>wpAny (model X.prog X.w) X.A (eval b X.env) (fun u s₂=>wpAny (model X.prog X.w) X.A (f v u) Q X.xe s₂) X.xe s₁) X.xe s:=by
 refine thn (ha pins s σ H _ I h) fun v s1 ⟨x,H1,I1,r1,q1⟩=>?_
 refine thn (hb pins s1 σ H1 _ I1 q1) fun u s2 ⟨y,H2,I2,r2,q2⟩=>?_
 exact hf v u s2 x y H2 I2 r1 r2 q2
theorem ui {op:Operator} {r:R2} (ho:OpR X (binaryOp op) r) (ha:PE X a ta) (hb:PE X b tb):PE X (.BinOp a op b pos) (tOp r ta tb):=by
 intro pins s σ H Q I h
 exact wpAny_BinOp (binT ha hb I h fun v u s2 x y H2 I2 rx ry q=>ho pins s2 σ H2 x y v u Q I2 rx ry q)
theorem tU {op:UnaryOp} {r:V→Hp→VK→Prop} (ho:UnR X (unaryOp op) r) (ha:PE X a ta):PE X (.UnaryOp op a pos) (tUn r ta):=by
 intro pins s σ H Q I h
 exact UnaryOp_ (thn (ha pins s σ H _ I h) fun v s1 ⟨x,H1,I1,r1,q1⟩=>ho pins s1 σ H1 x v Q I1 r1 q1)
theorem opI {f:Value→Value→Sem Value} {C:Int→Int→Prop} {g:Int→Int→Int}
  (rule:∀ (i j:Int) (t u:Tok) (s:Shared) (Q:Value→Shared→Prop) (E:Value→Shared→Prop),C i j→Q (.int (g i j) s.toks) { s with toks:=s.toks + 1 }→wpAny (model X.prog X.w) X.A (f (.int i t) (.int j u)) Q E s) :
  OpR X f (rI C fun i j=>.int (g i j)):=by
 intro pins s σ H x y v u Q I rx ry h
 obtain ⟨i,j,rfl,rfl,hc,q⟩:=h
 obtain ⟨t,rfl⟩:=rx
 obtain ⟨t',rfl⟩:=ry
 exact rule i j t t' s _ _ hc ⟨.int (g i j),H,I.tok _,⟨_,rfl⟩,q⟩
theorem opI0 {f:Value→Value→Sem Value} {g:Int→Int→Int}
  (rule:∀ (i j:Int) (t u:Tok) (s:Shared) (Q:Value→Shared→Prop) (E:Value→Shared→Prop),Q (.int (g i j) s.toks) { s with toks:=s.toks + 1 }→wpAny (model X.prog X.w) X.A (f (.int i t) (.int j u)) Q E s) :
  OpR X f (rI0 fun i j=>.int (g i j)):=by
 intro pins s σ H x y v u Q I rx ry h
 obtain ⟨i,j,rfl,rfl,q⟩:=h
 obtain ⟨t,rfl⟩:=rx
 obtain ⟨t',rfl⟩:=ry
 exact rule i j t t' s _ _ ⟨.int (g i j),H,I.tok _,⟨_,rfl⟩,q⟩
theorem opB0 {f:Value→Value→Sem Value} {g:Int→Int→Bool}
  (rule:∀ (i j:Int) (t u:Tok) (s:Shared) (Q:Value→Shared→Prop) (E:Value→Shared→Prop),Q (.bool (g i j)) s→wpAny (model X.prog X.w) X.A (f (.int i t) (.int j u)) Q E s) :
  OpR X f (rI0 fun i j=>.bl (g i j)):=by
 intro pins s σ H x y v u Q I rx ry h
 obtain ⟨i,j,rfl,rfl,q⟩:=h
 obtain ⟨t,rfl⟩:=rx
 obtain ⟨t',rfl⟩:=ry
 exact rule i j t t' s _ _ ⟨.bl (g i j),H,I,rfl,q⟩
def CPow (i j:Int):Prop:=0≤j∧j≤1000000∧i.natAbs < 2 ^ 64
def CMul (i j:Int):Prop:=(-(2 ^ 64) < i∧i < 2 ^ 64)∨(-(2 ^ 64) < j∧j < 2 ^ 64)
theorem CMul.ok {i j:Int} (h:CMul i j):IntMulOk i j:=by
 rcases h with ⟨h1,h2⟩ | ⟨h1,h2⟩
 ·exact .of_left (intBits_le_64 h1 h2)
 ·exact .of_right (intBits_le_64 h1 h2)
theorem so:OpR X (binaryOp .Add) (rI0 fun i j=>.int (i + j)):=opI0 fun _ _ _ _ _ _ _ q=>add_int q
theorem re:OpR X (binaryOp .Sub) (rI0 fun i j=>.int (i - j)):=opI0 fun _ _ _ _ _ _ _ q=>sub_int q
theorem pq:OpR X (binaryOp .Mod) (rI (fun _ j=>j≠0) fun i j=>.int (i.fmod j)):=opI fun _ _ _ _ _ _ _ hc q=>mod_int' hc q
theorem sY:OpR X (binaryOp .Pow) (rI CPow fun i j=>.int (i ^ j.toNat)):=opI fun _ _ _ _ _ _ _ hc q=>pow_int_small hc.1 hc.2.1 hc.2.2 q
theorem unI {f:Value→Sem Value} {g:Int→Int}
  (rule:∀ (i:Int) (t:Tok) (s:Shared) (Q:Value→Shared→Prop) (E:Value→Shared→Prop),Q (.int (g i) s.toks) { s with toks:=s.toks + 1 }→wpAny (model X.prog X.w) X.A (f (.int i t)) Q E s) :
  UnR X f (rU fun i=>.int (g i)):=by
 intro pins s σ H x v Q I rx h
 obtain ⟨i,rfl,q⟩:=h
 obtain ⟨t,rfl⟩:=rx
 exact rule i t s _ _ ⟨.int (g i),H,I.tok _,⟨_,rfl⟩,q⟩
theorem rF:UnR X (unaryOp .USub) (rU fun i=>.int (-i)):=unI fun _ _ _ _ _ q=>neg_int q
end
def scal:V→V→Bool
 | .non,.non=>true | .non,.int _=>true | .int _,.non=>true | .non,.bl _=>true | .bl _,.non=>true | .non,.str _=>true | .str _,.non=>true
 | .int _,.int _=>true | .bl _,.bl _=>true | .str _,.str _=>true | .byt _,.byt _=>true
 | .int _,.str _=>true | .str _,.int _=>true | .bl _,.str _=>true | .str _,.bl _=>true
 | _,_=>false
def rEq:R2:=fun x y H Q=>scal x y=true∧Q (.bl (decide (x=y))) H
def rNe:R2:=fun x y H Q=>scal x y=true∧Q (.bl (!decide (x=y))) H
theorem hV {i j:Int}:decide (V.int i=V.int j)=(i == j):=by
 rw [Bool.eq_iff_iff]
 simp
theorem kF {i j:Bool}:decide (V.bl i=V.bl j)=(i == j):=by
 rw [Bool.eq_iff_iff]
 simp
theorem g6 {i j:Str}:decide (V.str i=V.str j)=(i == j):=by
 rw [Bool.eq_iff_iff]
 simp
theorem kh {i j:Array UInt8}:decide (V.byt i=V.byt j)=(i.toList == j.toList):=by
 rw [Bool.eq_iff_iff]
 cases i
 cases j
 simp
section
variable {X:Cx} {a b c:Expr} {ta tb tc:TE} {pos:Pos}
theorem aF {pins:List (Addr×Obj)} {σ:St} {H:Hp} {s:Shared} {Q:VK} {k k':Bool} (I:Inv X pins σ H s) (q:Q (.bl k) H) (e:k=k'):EP X pins σ Q (.bool k') s:=by
 subst e
 exact⟨.bl k,H,I,rfl,q⟩
theorem p0:OpR X (compareOp .Eq) rEq:=by
 intro pins s σ H x y v u Q I rx ry h
 obtain ⟨hs,q⟩:=h
 cases x with
 | non =>
  cases rx
  cases y with
  | non=>cases ry;exact PySem.EqNone.eq_none_none (aF I q (by simp))
  | bl j=>cases ry;exact PySem.EqNone.eq_none_bool (aF I q (by simp))
  | int j=>obtain ⟨t',rfl⟩:=ry;exact PySem.EqNone.eq_none_int (aF I q (by simp))
  | str j=>obtain ⟨t',rfl⟩:=ry;exact PySem.EqNone.eq_none_str (aF I q (by simp))
  | _=>exact absurd (show false=true from hs) Bool.false_ne_true
 | bl i =>
  cases rx
  cases y with
  | non=>cases ry;exact PySem.EqNone.eq_bool_none (aF I q (by simp))
  | bl j=>cases ry;exact eq_bool (aF I q kF)
  | str j=>obtain ⟨t',rfl⟩:=ry;exact PySem.EqMixed.eq_bool_str (aF I q (by simp))
  | _=>exact absurd (show false=true from hs) Bool.false_ne_true
 | int i =>
  obtain ⟨t,rfl⟩:=rx
  cases y with
  | non=>cases ry;exact PySem.EqNone.eq_int_none (aF I q (by simp))
  | int j=>obtain ⟨t',rfl⟩:=ry;exact eq_int (aF I q hV)
  | str j=>obtain ⟨t',rfl⟩:=ry;exact PySem.EqMixed.eq_int_str (aF I q (by simp))
  | _=>exact absurd (show false=true from hs) Bool.false_ne_true
 | str i =>
  obtain ⟨t,rfl⟩:=rx
  cases y with
  | non=>cases ry;exact PySem.EqNone.eq_str_none (aF I q (by simp))
  | bl j=>cases ry;exact PySem.EqMixed.eq_str_bool (aF I q (by simp))
  | int j=>obtain ⟨t',rfl⟩:=ry;exact PySem.EqMixed.eq_str_int (aF I q (by simp))
  | str j=>obtain ⟨t',rfl⟩:=ry;exact eq_str (aF I q g6)
  | _=>exact absurd (show false=true from hs) Bool.false_ne_true
 | byt i =>
  obtain ⟨t,rfl⟩:=rx
  cases y with
  | byt j=>obtain ⟨t',rfl⟩:=ry;exact PySem.W.eq_bytes (aF I q kh)
  | _=>exact absurd (show false=true from hs) Bool.false_ne_true
 | _=>cases y<;>exact absurd (show false=true from hs) Bool.false_ne_true
theorem ql:OpR X (compareOp .NotEq) rNe:=by
 intro pins s σ H x y v u Q I rx ry h
 obtain ⟨hs,q⟩:=h
 cases x with
 | non =>
  cases rx
  cases y with
  | non=>cases ry;exact PySem.EqNone.ne_none_none (aF I q (by simp))
  | bl j=>cases ry;exact PySem.EqNone.ne_none_bool (aF I q (by simp))
  | int j=>obtain ⟨t',rfl⟩:=ry;exact PySem.EqNone.ne_none_int (aF I q (by simp))
  | str j=>obtain ⟨t',rfl⟩:=ry;exact PySem.EqNone.ne_none_str (aF I q (by simp))
  | _=>exact absurd (show false=true from hs) Bool.false_ne_true
 | bl i =>
  cases rx
  cases y with
  | non=>cases ry;exact PySem.EqNone.ne_bool_none (aF I q (by simp))
  | bl j=>cases ry;exact ne_bool (aF I q (congrArg not kF))
  | str j=>obtain ⟨t',rfl⟩:=ry;exact PySem.EqMixed.ne_bool_str (aF I q (by simp))
  | _=>exact absurd (show false=true from hs) Bool.false_ne_true
 | int i =>
  obtain ⟨t,rfl⟩:=rx
  cases y with
  | non=>cases ry;exact PySem.EqNone.ne_int_none (aF I q (by simp))
  | int j=>obtain ⟨t',rfl⟩:=ry;exact ne_int (aF I q (congrArg not hV))
  | str j=>obtain ⟨t',rfl⟩:=ry;exact PySem.EqMixed.ne_int_str (aF I q (by simp))
  | _=>exact absurd (show false=true from hs) Bool.false_ne_true
 | str i =>
  obtain ⟨t,rfl⟩:=rx
  cases y with
  | non=>cases ry;exact PySem.EqNone.ne_str_none (aF I q (by simp))
  | bl j=>cases ry;exact PySem.EqMixed.ne_str_bool (aF I q (by simp))
  | int j=>obtain ⟨t',rfl⟩:=ry;exact PySem.EqMixed.ne_str_int (aF I q (by simp))
  | str j=>obtain ⟨t',rfl⟩:=ry;exact ne_str (aF I q (congrArg not g6))
  | _=>exact absurd (show false=true from hs) Bool.false_ne_true
 | byt i =>
  obtain ⟨t,rfl⟩:=rx
  cases y with
  | byt j=>obtain ⟨t',rfl⟩:=ry;exact PySem.W.ne_bytes (aF I q (congrArg not kh))
  | _=>exact absurd (show false=true from hs) Bool.false_ne_true
 | _=>cases y<;>exact absurd (show false=true from hs) Bool.false_ne_true
theorem uo:OpR X (compareOp .Lt) (rI0 fun i j=>.bl (decide (i < j))):=opB0 fun _ _ _ _ _ _ _ q=>lt_int q
theorem tX:OpR X (compareOp .Gt) (rI0 fun i j=>.bl (decide (j < i))):=opB0 fun _ _ _ _ _ _ _ q=>gt_int q
theorem OpR.or {f:Value→Value→Sem Value} {r r':R2} (h:OpR X f r) (h':OpR X f r'):OpR X f (fun x y H Q=>r x y H Q∨r' x y H Q):=by
 intro pins s σ H x y v u Q I rx ry q
 rcases q with q | q
 ·exact h pins s σ H x y v u Q I rx ry q
 ·exact h' pins s σ H x y v u Q I rx ry q
theorem aw (b:Expr) {op:CmpOp} (h:op≠.In:=by decide) (h2:op≠.NotIn:=by decide):behindInMarks op b=false:=by
 have e1:(op == CmpOp.In)=false:=by cases op<;>first | rfl | exact absurd rfl h
 have e2:(op == CmpOp.NotIn)=false:=by cases op<;>first | rfl | exact absurd rfl h2
 cases b<;>simp [behindInMarks,e1,e2]
theorem pN {op:CmpOp} {r:R2} (ho:OpR X (compareOp op) r) (ha:PE X a ta) (hb:PE X b tb) (hm:behindInMarks op b=false):PE X (.Compare a [op] [b] pos) (tOp r ta tb):=by
 intro pins s σ H Q I h
 exact wpAny_Compare1 (binT ha hb I h fun v u s2 x y H2 I2 rx ry q=>ho pins s2 σ H2 x y v u Q I2 rx ry q) hm
def tT (t:TE):TT:=fun σ H Q=>t σ H fun x H'=>∃ k,x=.bl k∧Q k H'
theorem qj {op:CmpOp} {r:R2} (ho:OpR X (compareOp op) r) (ha:PE X a ta) (hb:PE X b tb) (hm:behindInMarks op b=false):PT X (.Compare a [op] [b] pos) (tT (tOp r ta tb)):=by
 intro pins s σ H Q I h
 refine wpAny_isTrue_Compare1 (thn (ha pins s σ H _ I h) fun v s1 ⟨x,H1,I1,r1,q1⟩=>thn (hb pins s1 σ H1 _ I1 q1) fun u s2 ⟨y,H2,I2,r2,q2⟩ =>
  thn (ho pins s2 σ H2 x y v u _ I2 r1 r2 q2) fun c s3 ⟨z,H3,I3,r3,k,e,q3⟩=>?_) hm
 subst e
 cases r3
 exact wpAny_truthy_bool ⟨H3,I3,q3⟩
theorem ge:(sizeLine:Nat) < 2 ^ 63:=by rw [sizeLine_eq];decide
theorem fP {x:V} {us:List Value} (r:Vals [x] us):∃ u,us=[u]∧RelV x u:=by
 cases r with
 | cons r1 r2=>cases r2;exact⟨_,rfl,r1⟩
theorem ki {x y:V} {us:List Value} (r:Vals [x,y] us):∃ u w',us=[u,w']∧RelV x u∧RelV y w':=by
 cases r with
 | cons r1 r2 =>
  cases r2 with
  | cons r3 r4=>cases r4;exact⟨_,_,rfl,r1,r3⟩
theorem mW:bx X (.builtin "abs") (fun xs H Q=>∃ i,xs=[.int i]∧Q (.int (if i < 0 then -i else i)) H):=by
 intro pins s σ H xs us Q I r h
 obtain ⟨i,rfl,q⟩:=h
 obtain ⟨u,rfl,t,rfl⟩:=fP r
 exact call_abs_int fun u tk=>⟨.int (if i < 0 then -i else i),H,I.tok _,⟨_,rfl⟩,q⟩
theorem kc (hc:X.calm=true):bx X (.builtin "max") (fun xs H Q=>∃ i j,xs=[.int i,.int j]∧Q (.int (if j > i then j else i)) H):=by
 intro pins s σ H xs us Q I r h
 obtain ⟨i,j,rfl,q⟩:=h
 obtain ⟨u,w',rfl,⟨t,rfl⟩,⟨t',rfl⟩⟩:=ki r
 refine max_two_ints (I.ok.hd hc) fun h' tk k=>⟨_,H,I.kept k,?_,q⟩
 by_cases hj:j > i
 ·rw [if_pos hj,if_pos hj];exact⟨_,rfl⟩
 ·rw [if_neg hj,if_neg hj];exact⟨_,rfl⟩
theorem kW:bx X (.type "int") (fun xs H Q=>(∃ i,xs=[.int i]∧Q (.int i) H)∨∃ k,xs=[.bl k]∧Q (.int (if k then 1 else 0)) H):=by
 intro pins s σ H xs us Q I r h
 rcases h with ⟨i,rfl,q⟩ | ⟨k,rfl,q⟩
 ·obtain ⟨u,rfl,t,rfl⟩:=fP r
  exact call_int_int ⟨.int i,H,I,⟨_,rfl⟩,q⟩
 ·obtain ⟨u,rfl,r1⟩:=fP r
  cases r1
  exact call_int_bool ⟨.int (if k then 1 else 0),H,I.tok _,⟨_,rfl⟩,q⟩
end
end L2
namespace L2
open PySem PySem.Spec PyProof.Rows
structure ObjM (h:Heap) (x dx C:Addr) (mA:Str→Option Value):Prop where
 obj:h.get? x=some (PySem.W.instObj C dx)
 ns:h.Ns1 dx mA
 ne:dx≠x
theorem gE {h:Heap} {dx:Addr} {mA:Str→Option Value} (n:h.Ns1 dx mA):∃ od,h.get? dx=some od∧∀ name,PySem.W.lookIn name od=some (mA name):=by
 obtain ⟨o,es,ep,ho,hd,hk,_,hm⟩:=n
 refine⟨o,ho,fun name=>?_⟩
 have e:=hm name
 unfold nsFind findBy at e
 rw [← Array.find?_toList] at e
 unfold PySem.W.lookIn
 rw [hd]
 dsimp only
 split
 ·rename_i y q
  rw [q] at e
  exact congrArg some e
 ·rename_i q
  rw [q] at e
  have a:es.toList.any (·.refKey)=false:=by
   rw [List.any_eq_false]
   intro y hy
   obtain ⟨z,t,hkey⟩:=hk y (Array.mem_toList_iff.mp hy)
   simp [DictEntry.refKey,hkey]
  have a':¬ es.toList.any (·.refKey)=true:=by rw [a];exact Bool.false_ne_true
  rw [if_neg a']
  exact congrArg some e
theorem ObjM.look {h:Heap} {x dx C:Addr} {mA:Str→Option Value} (I:ObjM h x dx C mA):∃ od,PySem.W.InstAt h x (PySem.W.instObj C dx) C (some od)∧∀ name,PySem.W.lookIn name od=some (mA name) :=
 let ⟨od,ho,hl⟩:=gE I.ns
 ⟨od,⟨I.obj,rfl,rfl,ho⟩,hl⟩
section
variable {prog:Program} {w:World} {A:Around} {E:Value→Shared→Prop} {s:Shared} {K:PySem.W.Frag} {x dx C f:Addr} {mA:Str→Option Value} {name:Str} {v:Value}
end
theorem RelO.some_of {v:V} {o:Option Value} (r:RelO (some v) o):∃ u,o=some u∧RelV v u:=by
 cases o with
 | none=>exact (show False from r).elim
 | some u=>exact⟨u,rfl,r⟩
theorem lP {v:V} {u:Value} (r:RelV v u):PySem.W.handedIn u=true:=by
 cases v with
 | non=>cases (show u=Value.none from r);rfl
 | bl b=>cases (show u=Value.bool b from r);rfl
 | int i=>obtain ⟨t,e⟩:=(show ∃ t,u=Value.int i t from r);cases e;rfl
 | str x=>obtain ⟨t,e⟩:=(show ∃ t,u=Value.str x t from r);cases e;rfl
 | byt b=>obtain ⟨t,e⟩:=(show ∃ t,u=Value.bytes b t from r);cases e;rfl
 | flt b=>obtain ⟨t,e⟩:=(show ∃ t,u=Value.float b t from r);cases e;rfl
 | ref a=>cases (show u=Value.ref a from r);rfl
 | ty n=>cases (show u=Value.type n from r);rfl
section
variable {P:Program} {w:World} {H H':Hp} {h h':Heap} {a C dx:Addr} {fs fs':List (Str×V)}
theorem oX (hok:HOk P w H h) (e:H a=some (.ins C dx fs)):∃ mA,ObjM h a dx C mA∧(∀ f,RelO (fs.lookup f) (mA f))∧PySem.Within mA (fs.map (·.1))∧fs.length≤1000∧H dx=some (.own a):=by
 obtain ⟨d,z,ne,ob,mA,n,r,q⟩:=(show bq P w H h a (.ins C dx fs) from hok a _ e)
 exact⟨mA,⟨ob,n,ne⟩,r,q,z,d⟩
end
structure Cls (K:PySem.W.Frag) (C:Addr):Prop where
 pg:PySem.W.plainGet K C Str.empty=true
 hd:PySem.W.hasDictIn K C=true
 po:PySem.W.plainOver K C=true
 sa:PySem.W.findIn K (.ref C) "__setattr__"=some (some (.builtin "object.__setattr__"))
theorem Cls.get {K:PySem.W.Frag} {C:Addr} (c:Cls K C) (f:Str):PySem.W.plainGet K C f=true:=c.pg
section
variable {X:Cx} {pins:List (Addr×Obj)} {σ:St} {H:Hp} {s:Shared} {a C dx:Addr} {fs:List (Str×V)} {f:Str} {v:V} {A:Around} {E:Value→Shared→Prop}
theorem oC {prog:Program} {w:World} {env:Env} {e:Expr} {f:Str} {pos:Pos} {s:Shared} {Q:Value→Shared→Prop} (hb:attributeBase e f env (eval e env)=eval e env)
  (h:wpAny (model prog w) A (eval e env) (fun o s₁=>wpAny (model prog w) A (getAttr o f true) Q E s₁) E s):wpAny (model prog w) A (eval (.Attribute e f pos) env) Q E s :=
 Attribute_any_ h (by rw [arm_eval_Attribute,hb])
end
section
variable {X:Cx} {o e value:Expr} {f:Str} {pos pos' tpos:Pos} {ta tv:TE}
end
section
variable {X:Cx} {pins:List (Addr×Obj)} {σ:St} {H:Hp} {s:Shared} {A:Around} {E:Value→Shared→Prop} {Q:Value→Shared→Prop} {c:Value} {b:Bool}
inductive TyOf (K:PySem.W.Frag) (H:Hp):V→Value→Prop where
 | non:TyOf K H .non (.type "NoneType")
 | bl (x:Bool):TyOf K H (.bl x) (.type "bool")
 | int (i:Int):TyOf K H (.int i) (.type "int")
 | str (x:Str):TyOf K H (.str x) (.type "str")
 | flt (x:UInt64):TyOf K H (.flt x) (.type "float")
 | lst {a:Addr} {xs:List V} (e:H a=some (.lst xs)):TyOf K H (.ref a) (.type "list")
 | frz {a:Addr} {o:Obj} {xs:List V} (e:H a=some (.frz o (.lst xs))):TyOf K H (.ref a) (.type "list")
 | tup {a:Addr} {xs:List V} (e:H a=some (.tup xs)):TyOf K H (.ref a) (.type "tuple")
 | dK {a:Addr} {kvs:List (Key×V)} (e:H a=some (.dK kvs)):TyOf K H (.ref a) (.type "dict")
 | dT {a:Addr} {kvs:List (List Key×V)} (e:H a=some (.dT kvs)):TyOf K H (.ref a) (.type "dict")
 | ins {a C dx:Addr} {fs:List (Str×V)} (e:H a=some (.ins C dx fs)) (cl:Cls K C) (ha:PySem.W.findIn K (.ref C) "__class__"=some (some (.builtin "object.__class__")))
   (hn:PySem.W.specialIn K (.builtin "object.__class__") "__get__"=some (some (.builtin "getset_descriptor.__get__"))) (htk:PySem.W.takesIn K (.builtin "object.__class__")=some true)
   (hm:PySem.W.mroIn K C (.type "object")=some true):TyOf K H (.ref a) (.ref C)
theorem bU {x:V} {u t:Value} (I:Inv X pins σ H s) (rx:RelV x u) (ty:TyOf X.K H x t) (e:PySem.W.kitOne X.K t c=some b) (h:∀ tk,Q (.bool b) { s with toks:=tk }) :
  wpAny (model X.prog X.w) A (call (.builtin "isinstance") [u,c]) Q E s:=by
 cases ty with
 | non=>cases (show u=Value.none from rx);exact PySem.W.kia_one PySem.W.kitx_none I.kIn True.intro e (fun z=>nomatch z) h
 | bl y=>cases (show u=Value.bool y from rx);exact PySem.W.kia_one PySem.W.kitx_bool I.kIn True.intro e (fun z=>nomatch z) h
 | int i=>obtain ⟨t,q⟩:=(show ∃ t,u=Value.int i t from rx);cases q;exact PySem.W.kia_one PySem.W.kitx_int I.kIn True.intro e (fun z=>nomatch z) h
 | str y=>obtain ⟨t,q⟩:=(show ∃ t,u=Value.str y t from rx);cases q;exact PySem.W.kia_one PySem.W.kitx_str I.kIn True.intro e (fun z=>nomatch z) h
 | flt y=>obtain ⟨t,q⟩:=(show ∃ t,u=Value.float y t from rx);cases q;exact PySem.W.kia_one PySem.W.kitx_float I.kIn True.intro e (fun z=>nomatch z) h
 | @lst a xs ea =>
  cases (show u=Value.ref a from rx)
  obtain ⟨_,_,n,_,h1⟩:=(show bq X.prog X.w H s.heap a (.lst xs) from I.hok a _ ea)
  exact PySem.W.kia_one PySem.W.kitx_list I.kIn ⟨_,h1,rfl⟩ e (fun z=>nomatch z) h
 | @frz a ob xs ea =>
  cases (show u=Value.ref a from rx)
  obtain ⟨_,_,_,n,_,h1⟩:=(show bq X.prog X.w H s.heap a (.frz ob (.lst xs)) from I.hok a _ ea)
  exact PySem.W.kia_one PySem.W.kitx_list I.kIn ⟨_,h1,rfl⟩ e (fun z=>nomatch z) h
 | @tup a xs ea =>
  cases (show u=Value.ref a from rx)
  obtain ⟨_,_,_,p⟩:=(show bq X.prog X.w H s.heap a (.tup xs) from I.hok a _ ea)
  obtain ⟨o,h1,h2,_⟩:=p
  exact PySem.W.kia_one PySem.W.kitx_tuple I.kIn ⟨o,h1,h2⟩ e (fun z=>nomatch z) h
 | @dK a kvs ea =>
  cases (show u=Value.ref a from rx)
  obtain ⟨_,_,vs,_,p⟩:=(show bq X.prog X.w H s.heap a (.dK kvs) from I.hok a _ ea)
  obtain ⟨o,es,ep,h1,h2,_⟩:=p
  exact PySem.W.kia_one PySem.W.kitx_dict I.kIn ⟨o,h1,h2.1⟩ e (fun z=>nomatch z) h
 | @dT a kvs ea =>
  cases (show u=Value.ref a from rx)
  obtain ⟨_,_,xs,_,o,es,ep,h1,h2,_⟩:=(show bq X.prog X.w H s.heap a (.dT kvs) from I.hok a _ ea)
  exact PySem.W.kia_one PySem.W.kitx_dict I.kIn ⟨o,h1,h2.1⟩ e (fun z=>nomatch z) h
 | @ins a C dx fs ea cl ha hn htk hm =>
  cases (show u=Value.ref a from rx)
  obtain ⟨mA,O,_⟩:=oX I.hok ea
  obtain ⟨od,J,_⟩:=O.look
  exact PySem.W.kia_one (PySem.W.kitx_own (cl.get _) cl.hd ha hn htk hm) I.kIn J e (fun z=>nomatch z) h
end
end L2
namespace L2
open PySem PySem.Spec PyProof.Rows
structure Room (k:Nat) (A:Around):Prop where
 hd:A.handled=none
 dp:A.depth + 3 * k + 5 < recursionLimit
 un:A.units + 16 * k + 200 < cLine
theorem Room.mono {j k:Nat} {A:Around} (r:Room k A) (h:j≤k):Room j A:=⟨r.hd,by have:=r.dp;omega,by have:=r.un;omega⟩
theorem Room.deeper {k:Nat} {A:Around} (r:Room (k + 1) A) (env:Env):Room k (A.deeper env) :=
 ⟨r.hd,by have:=r.dp;show A.depth + 1 + 3 * k + 5 < _;omega,by have:=r.un;show A.units + 3 + 16 * k + 200 < _;omega⟩
theorem jN {A:Around} {C:Addr} {us:List Value} {kw:List (Str×Value)}:(A.under (.builtin "type.__call__" ⟨.ref C :: us,kw⟩)).depth=A.depth + 1:=by
 first | rfl | simp [Around.under,Code.weight,Code.isCreation,Code.isGuard,Code.isCaller,Code.frames,Code.isFrame,guardIds]
theorem jz {A:Around} {C:Addr} {us:List Value} {kw:List (Str×Value)}:(A.under (.builtin "type.__call__" ⟨.ref C :: us,kw⟩)).units=A.units + 1:=by
 first | rfl | simp [Around.under,Code.cUnits,Code.frames,Code.isFrame]
theorem Room.make {k:Nat} {A:Around} (r:Room (k + 1) A) (C:Addr) (us:List Value) (kw:List (Str×Value)):Room k (A.under (.builtin "type.__call__" ⟨.ref C :: us,kw⟩)) :=
 ⟨r.hd,by have:=r.dp;rw [jN];omega,by have:=r.un;rw [jz];omega⟩
theorem Room.depth {k:Nat} {A:Around} (r:Room k A):A.depth < recursionLimit:=by have:=r.dp;omega
theorem Room.units {k:Nat} {A:Around} (r:Room k A):A.units + 64 < cLine:=by have:=r.un;omega
def tNil:TA:=fun _ H Q=>Q [] H
def lK (ta:TE) (tr:TA):TA:=fun σ H Q=>ta σ H fun x H1=>tr σ H1 fun xs H2=>Q (x :: xs) H2
section
variable {X:Cx} {e:Expr} {es:List Expr} {te:TE} {t:TA} {pos:Pos}
theorem bS:PA X [] tNil:=fun _ _ _ _ H Q I h=>Calls.spliced_nil ⟨[],H,I,.nil,h⟩
theorem aI (ha:PE X e te) (hr:PA X es t) (hs:starEach (e :: es) X.env=(false,eval e X.env) :: starEach es X.env:=by rfl):PA X (e :: es) (lK te t):=by
 intro pos pins s σ H Q I h
 rw [hs]
 show wpAny _ _ (spliced ((false,eval e X.env) :: backTo pos (starEach es X.env))) _ _ s
 refine Calls.spliced_cons (thn (ha pins s σ H _ I h) fun u s1 ⟨x,H1,I1,r1,q1⟩=>?_)
 exact thn (hr pos pins s1 σ H1 _ I1 q1) fun us s2 ⟨xs,H2,I2,r2,q2⟩=>⟨x :: xs,H2,I2,.cons r1 r2,q2⟩
def tTup (t:TA):TE:=fun σ H Q=>t σ H fun xs H1=>xs.length≤sizeLine∧∀ p,H1 p=none→Q (.ref p) (upd H1 p (.tup xs))
def tLst (t:TA):TE:=fun σ H Q=>t σ H fun xs H1=>xs.length≤sizeLine∧∀ p,H1 p=none→Q (.ref p) (upd H1 p (.lst xs))
theorem nT {x1} (h:PA X es t):PE X (.Tuple es x1 pos) (tTup t):=by
 intro pins s σ H Q I hq
 refine wpAny_Tuple_spliced (thn (h pos pins s σ H _ I hq) fun us s1 ⟨xs,H1,I1,r,z,q⟩=>⟨by rw [← r.length];exact z,?_⟩)
 have hf:H1 s1.heap.objs.size=none:=I1.hok.fresh (Nat.le_refl _)
 refine⟨.ref s1.heap.objs.size,upd H1 s1.heap.objs.size (.tup xs),I1.laid (t':=s1.toks) (fun b u e=>uE _ e) (Nat.le_refl _) ?_,rfl,q _ hf⟩
 exact⟨z,us,r,⟨_,uW _ rfl,rfl,_,rfl⟩⟩
theorem lS (h:PA X es t):PE X (.List es pos) (tLst t):=by
 intro pins s σ H Q I hq
 refine wpAny_List_spliced (thn (h pos pins s σ H _ I hq) fun us s1 ⟨xs,H1,I1,r,z,q⟩=>⟨by rw [← r.length];exact z,?_⟩)
 have hf:H1 s1.heap.objs.size=none:=I1.hok.fresh (Nat.le_refl _)
 refine⟨.ref s1.heap.objs.size,upd H1 s1.heap.objs.size (.lst xs),I1.laid (t':=s1.toks) (fun b u e=>uE _ e) (Nat.le_refl _) ?_,rfl,q _ hf⟩
 exact⟨z,us,0,r,uW _ rfl⟩
end
abbrev Sp:=List V→Hp→VK→XK→Prop
abbrev CXT:=List Env→Hp→Shared→XK→Value→Shared→Prop
structure Env0 (P:Program) (w:World) (K:PySem.W.Frag) (mg:Str→Option Value) (base:Heap) (A:Around) (outer:List Env) (s:Shared) (H:Hp):Prop where
 frames:A.frames=some outer
 mod:Mod K mg base
 bs:∀ b o,base.get? b=some o→s.heap.get? b=some o∧H b=none
 bsz:base.objs.size≤s.heap.objs.size
 funs:s.heap.FunFrames base outer
 frf:∀ b∈frs outer,H b=none
 hok:HOk P w H s.heap
 bare:AllBare s.gens
def CE (outer:List Env) (P:Program) (w:World) (H:Hp) (s:Shared) (Q:VK) (u:Value) (s':Shared):Prop :=
 ∃ v H',s'.os=s.os∧AllBare s'.gens∧Un (frs outer) [] H H' s.heap s'.heap∧HOk P w H' s'.heap∧RelV v u∧Q v H'
def CR (CX:CXT) (outer:List Env) (P:Program) (w:World) (H:Hp) (s:Shared) (Q:VK) (E:XK) (r:Result) (s':Shared):Prop :=
 match r with
 | .ok (.ret u)=>CE outer P w H s Q u s'
 | .ok _=>False
 | .error e=>CX outer H s E e s'
structure FnOk (P:Program) (w:World) (K:PySem.W.Frag) (mg:Str→Option Value) (base:Heap) (CX:CXT) (k:Nat) (f:Addr) (fd:FuncData) (ps:List Str) (sp:Sp):Prop where
 len:∀ vs H Q E,sp vs H Q E→vs.length=ps.length
 run:∀ (A:Around) (outer:List Env) (s:Shared) (H:Hp) (args:Args) (us:List Value) (vs:List V) (Q:VK) (E:XK),Room k A→Env0 P w K mg base A outer s H→BindsTo s fd args (ps.zip us)→Vals vs us→sp vs H Q E →
  codeAny (model P w) A (.call (.ref f) args) (CR CX outer P w H s Q E) s
theorem FnOk.mono {P:Program} {w:World} {K:PySem.W.Frag} {mg:Str→Option Value} {base:Heap} {CX:CXT} {j k:Nat} {f:Addr} {fd:FuncData} {ps:List Str} {sp:Sp} (F:FnOk P w K mg base CX j f fd ps sp) (h:j≤k) :
  FnOk P w K mg base CX k f fd ps sp:=⟨F.len,fun A outer s H args us vs Q E hr=>F.run A outer s H args us vs Q E (hr.mono h)⟩
theorem FnOk.imp {P:Program} {w:World} {K:PySem.W.Frag} {mg:Str→Option Value} {base:Heap} {CX:CXT} {k:Nat} {f:Addr} {fd:FuncData} {ps:List Str} {sp sp':Sp} (F:FnOk P w K mg base CX k f fd ps sp)
  (h:∀ vs H Q E,sp' vs H Q E→sp vs H Q E):FnOk P w K mg base CX k f fd ps sp' :=
 ⟨fun vs H Q E q=>F.len vs H Q E (h _ _ _ _ q),fun A outer s H args us vs Q E hr he hb hv hs=>F.run A outer s H args us vs Q E hr he hb hv (h _ _ _ _ hs)⟩
theorem Env0.make {P:Program} {w:World} {K:PySem.W.Frag} {mg:Str→Option Value} {base:Heap} {A:Around} {outer:List Env} {s:Shared} {H:Hp} (e:Env0 P w K mg base A outer s H) (C:Addr) (us:List Value) (kw:List (Str×Value)) :
  Env0 P w K mg base (A.under (.builtin "type.__call__" ⟨.ref C :: us,kw⟩)) outer s H:=⟨by first | exact e.frames | (simpa [Around.under,Code.envs,Code.isFrame,pushEnvs] using e.frames),e.mod,e.bs,e.bsz,e.funs,e.frf,e.hok,e.bare⟩
section
variable {X:Cx} {pins:List (Addr×Obj)} {σ:St} {H:Hp} {s s':Shared}
theorem Inv.env0 (I:Inv X pins σ H s):Env0 X.prog X.w X.K X.mg X.base X.A X.stack s H :=
 ⟨I.ok.frames,I.ok.mod,I.bs,uD I.ok.bsz I.sz,I.stack,I.stkFree,I.hok,I.bare⟩
theorem Inv.after {Q:VK} {u:Value} (I:Inv X pins σ H s) (h:CE X.stack X.prog X.w H s Q u s'):EP X pins σ Q u s':=by
 obtain ⟨v,H',os,bare,un,hok,r,q⟩:=h
 obtain ⟨hh,g,d,t,os'⟩:=s'
 obtain rfl:os'=s.os:=os
 exact⟨v,H',I.call (h':=hh) (g':=g) (d':=d) (t':=t) (ch:=[]) un hok bare (fun b z=>absurd z (by simp)),r,q⟩
end
def o8 (sp:Sp) (dvs:List V) (E:XK) (t:TA):TE:=fun σ H Q=>t σ H fun vs H1=>sp (vs++dvs) H1 Q E
def c8 (K:PySem.W.Frag) (fd:FuncData) (ps:List Str) (ds:List Value):Prop :=
 ∀ (s:Shared) (us:List Value),K.In s.heap→(us++ds).length=ps.length→BindsTo s fd ⟨us,[]⟩ (ps.zip (us++ds))
theorem c8.all {K:PySem.W.Frag} {fd:FuncData} {ps:List Str} (h:∀ us:List Value,us.length=ps.length→bindArgs fd ⟨us,[]⟩=pure (ps.zip us)):c8 K fd ps []:=fun s us _ hl=>by
 rw [List.append_nil] at hl ⊢
 exact .of_eq (h us hl)
def je (CX:CXT) (X:Cx) (E:XK):Prop:=∀ (pins:List (Addr×Obj)) (σ:St) (H:Hp) (s:Shared) (e:Value) (s':Shared),Inv X pins σ H s→CX X.stack H s E e s'→X.xe e s'
section
variable {X:Cx} {CX:CXT} {k:Nat} {f C:Addr} {fd:FuncData} {ps:List Str} {sp:Sp} {dvs:List V} {ds:List Value} {E:XK} {x m:Str} {p pos apos:Pos} {e o:Expr} {es:List Expr} {ta:TE} {t:TA}
theorem qM {pins:List (Addr×Obj)} {σ:St} {H:Hp} {s:Shared} {Q:VK} {us:List Value} {vs:List V} (F:FnOk X.prog X.w X.K X.mg X.base CX k f fd ps sp) (hr:Room k X.A) (hb:c8 X.K fd ps ds) (hd:Vals dvs ds) (hx:je CX X E)
  (I:Inv X pins σ H s) (r:Vals vs us) (h:sp (vs++dvs) H Q E):wpAny (model X.prog X.w) X.A (call (.ref f) us) (EP X pins σ Q) X.xe s:=by
 have r2:Vals (vs++dvs) (us++ds):=r.append hd
 have hl:(us++ds).length=ps.length:=by rw [← r2.length];exact F.len _ _ _ _ h
 refine wpAny_call (codeAny_mono (F.run X.A X.stack s H ⟨us,[]⟩ (us++ds) (vs++dvs) Q E hr I.env0 (hb s us I.kIn hl) r2 h) fun r s' hq=>?_)
 cases r with
 | error e=>exact hx pins σ H s e s' I hq
 | ok fl =>
  cases fl with
  | ret u=>exact I.after hq
  | next=>exact False.elim hq
  | brk=>exact False.elim hq
  | cont=>exact False.elim hq
theorem eI (F:FnOk X.prog X.w X.K X.mg X.base CX k f fd ps sp) (hr:Room k X.A) (hg:Gl X x) (hm:X.mg x=some (.ref f)) (hk:PySem.W.keepIn X.K (.ref f)=true) (hb:c8 X.K fd ps ds) (hd:Vals dvs ds) (hx:je CX X E)
  (ha:PA X (e :: es) t) (hdb:(x == ("__debug__":Str))=false:=by decide) (he:starEach (e :: es) X.env=(false,eval e X.env) :: starEach es X.env:=by rfl) (hpl:(backTo pos (starEach es X.env)).any (·.1)=false:=by rfl) :
  PE X (.Call (.Name x p) (e :: es) [] pos) (o8 sp dvs E t):=by
 intro pins s σ H Q I h
 refine wpAny_Call_Name_kw (eL I hg hm ?_ hdb)
 refine PySem.W.callWith_K (h₀:=X.base) I.ok.mod.kin hk (thn (ha pos pins s σ H _ I h) fun us s1 ⟨vs,H1,I1,r,q⟩=>⟨I1.kIn,?_⟩) he hpl
 exact qM F hr hb hd hx I1 r q
end
section
variable {X:Cx} {CX:CXT} {k:Nat} {f C:Addr} {fd:FuncData} {ps ks:List Str} {sp:Sp} {E:XK} {x m:Str} {p pos apos kpos:Pos} {e o:Expr} {es:List Expr} {kws:List Keyword} {te ta:TE} {t tk:TA} {nm:Option Str}
variable {g:List Value→List Value→List Value} {gV:List V→List V→List V}
end
structure ar (N P:List Str) (sc:Scope):Prop where
 kind:sc.kind=.function
 co:sc.isCoroutine=false
 gen:sc.isGenerator=false
 nd:N.Nodup
 pre:N.take P.length=P
 par:∀ x∈P,sc.names.lookup x=some .local∨sc.names.lookup x=some .cell
 nofree:∀ y∈sc.names,y.2≠.free
theorem gd {kindOf:Str→Option NameKind} {x:Str}:∀ {binds:List (Str×Value)} {m:Str→Option Value},(∀ v,(x,v)∉binds)→bindL kindOf binds m x=m x
 | [],_,_=>rfl
 | (n,v) :: r,m,h=>by
  unfold bindL
  rw [gd fun w hw=>h w (uB _ hw)]
  split
  ·have:x≠n:=by rintro rfl;exact h v uF
   simp [this]
  ·rfl
theorem gf {kindOf:Str→Option NameKind} {x:Str}:∀ {binds:List (Str×Value)} {m:Str→Option Value},(∀ v,(x,v)∉binds)→bindC kindOf binds m x=m x
 | [],_,_=>rfl
 | (n,v) :: r,m,h=>by
  unfold bindC
  rw [gf fun w hw=>h w (uB _ hw)]
  split
  ·rfl
  ·have:x≠n:=by rintro rfl;exact h v uF
   simp [this]
theorem gu {kindOf:Str→Option NameKind} {x:Str} {v:Value}:∀ {P:List Str} {vs:List Value} {i:Nat} {m:Str→Option Value},P.Nodup→P[i]?=some x→vs[i]?=some v→kindOf x=some .local →
  bindL kindOf (P.zip vs) m x=some v
 | [],_,_,_,_,h,_,_=>by simp at h
 | _ :: _,[],_,_,_,_,h,_=>by simp at h
 | p :: P,w :: vs,0,m,nd,h1,h2,hk=>by
  simp at h1 h2;subst h1;subst h2
  show bindL kindOf ((p,w) :: P.zip vs) m p=_
  unfold bindL
  rw [gd fun v hv=>(List.nodup_cons.mp nd).1 (List.of_mem_zip hv).1,if_pos hk]
  simp
 | p :: P,w :: vs,i + 1,m,nd,h1,h2,hk=>by
  show bindL kindOf ((p,w) :: P.zip vs) m x=_
  unfold bindL
  exact gu (i:=i) (List.nodup_cons.mp nd).2 (by simpa using h1) (by simpa using h2) hk
theorem gy {kindOf:Str→Option NameKind} {x:Str} {v:Value}:∀ {P:List Str} {vs:List Value} {i:Nat} {m:Str→Option Value},P.Nodup→P[i]?=some x→vs[i]?=some v→kindOf x≠some .local →
  bindC kindOf (P.zip vs) m x=some v
 | [],_,_,_,_,h,_,_=>by simp at h
 | _ :: _,[],_,_,_,_,h,_=>by simp at h
 | p :: P,w :: vs,0,m,nd,h1,h2,hk=>by
  simp at h1 h2;subst h1;subst h2
  show bindC kindOf ((p,w) :: P.zip vs) m p=_
  unfold bindC
  rw [gf fun v hv=>(List.nodup_cons.mp nd).1 (List.of_mem_zip hv).1,if_neg hk]
  simp
 | p :: P,w :: vs,i + 1,m,nd,h1,h2,hk=>by
  show bindC kindOf ((p,w) :: P.zip vs) m x=_
  unfold bindC
  exact gy (i:=i) (List.nodup_cons.mp nd).2 (by simpa using h1) (by simpa using h2) hk
def start (N:List Str) (vs:List V):St:=vs.map some++List.replicate (N.length - vs.length) none
def cxOf (CX:CXT) (P:Program) (w:World) (K:PySem.W.Frag) (mg:Str→Option Value) (base:Heap) (N:List Str) (qual:Str) (scope:Scope) (f:Addr) (cd:Value) (A:Around) (outer:List Env) (s:Shared) (H:Hp) (E:XK):Cx where
 prog:=P
 w:=w
 K:=K
 mg:=mg
 base:=base
 A:=A.deeper (envOfC qual scope s.heap.objs.size f cd)
 N:=N
 s₀:=s
 H₀:=H
 env:=envOfC qual scope s.heap.objs.size f cd
 outer:=outer
 stack:=envOfC qual scope s.heap.objs.size f cd :: outer
 ex:=[]
 calm:=true
 fn:=fun _=>true
 pn:=[]
 xe:=fun e s'=>wpAny (model P w) (A.deeper (envOfC qual scope s.heap.objs.size f cd)) (leaving (envOfC qual scope s.heap.objs.size f cd) e) (fun _ s''=>CX outer H s E e s'') (fun e' s''=>CX outer H s E e' s'') s'
theorem i7 {sc:Scope} {n:Nat} {x:Str} (h:sc.names.lookup x=some .cell):∃ c,(cellsFrom n sc.names []).lookup x=some c:=by
 have q:=PySem.W.cellsFrom_some sc.names n [] (.inl h)
 exact Option.isSome_iff_exists.mp q
theorem lz {CX:CXT} {P:Program} {w:World} {K:PySem.W.Frag} {mg:Str→Option Value} {base:Heap} {N ps:List Str} {qual:Str} {scope:Scope} {f:Addr} {cd:Value} {A:Around} {outer:List Env} {s s1:Shared} {H:Hp} {E:XK} {us:List Value} {vs:List V}
  (S:ar N ps scope) (hd:A.handled=none) (e0:Env0 P w K mg base A outer s H) (hl:vs.length=ps.length) (r:Vals vs us)
  (x:InCallC s s.heap.objs.size (bindL (envOfC qual scope s.heap.objs.size f cd).kindOf (ps.zip us) fun _=>none) (cellsFrom (s.heap.objs.size + 1) scope.names []) (bindC (envOfC qual scope s.heap.objs.size f cd).kindOf (ps.zip us) fun _=>none) s1) :
  Inv (cxOf CX P w K mg base N qual scope f cd A outer s H E) [] (start N vs) H s1:=by
 have hpl:ps.length≤N.length:=by have:=congrArg List.length S.pre;rw [uX] at this;omega
 obtain ⟨h1,tk,rfl,hk⟩:=x.done
 have noA:∀ b:Addr,b∉(cxOf CX P w K mg base N qual scope f cd A outer s H E).ex:=fun b z=>absurd (show b∈([]:List Addr) from z) (by simp)
 refine⟨⟨e0.mod,S.kind,rfl,rfl,Nat.le_refl _,fun y z c h1 h2=>?_,fun y hy=>?_,fun y c _ h=>?_,fun _=>hd,Around.frames_deeper e0.frames,.inr ⟨rfl,rfl⟩,fun b z=>absurd z (noA b),e0.bs,e0.bsz,fun b _ _=>noA b,fun b z=>absurd z (noA b),e0.funs,e0.frf⟩,
  rfl,e0.bare,Un.kept hk,⟨_,x.toInCall.ns,fun i y v h1 h2 h3=>?_⟩,fun y c h=>⟨_,x.cell y c h⟩,e0.hok.fresh (Nat.le_refl _),fun y c h=>?_,fun p hp=>absurd (show p∈([]:List (Addr×Obj)) from hp) (by simp),e0.hok.kept hk,?_⟩
 ·exact name_of_addr x.apart (PySem.mem_of_lookup h1) (PySem.mem_of_lookup h2)
 ·have hy:scope.names.lookup y=some .cell∨scope.names.lookup y=some .free:=hy
  rcases hy with hy | hy
  ·exact i7 hy
  ·exact absurd rfl (S.nofree _ (PySem.mem_of_lookup hy))
 ·exact Nat.le_of_lt (x.above y c (PySem.mem_of_lookup h))
 ·have hi:i < vs.length:=by
   unfold start at h2
   by_cases hi:i < vs.length
   ·exact hi
   ·rw [uU (by simpa using hi)] at h2
    rw [List.getElem?_replicate] at h2
    split at h2<;>cases h2
  have ha:vs[i]?=some v:=by
   unfold start at h2
   rw [uV (by simpa using hi),uN] at h2
   cases e:vs[i]? with
   | none=>rw [e] at h2;cases h2
   | some a=>rw [e] at h2;cases h2;rfl
  obtain ⟨u,hu,rv⟩:=r.get ha
  have hp:ps[i]?=some y:=by
   rw [← S.pre,List.getElem?_take_of_lt (by omega)];exact h1
  have ndP:ps.Nodup:=by rw [← S.pre];exact S.nd.sublist (List.take_sublist _ _)
  refine⟨u,rv,?_⟩
  rcases S.par y (uO hp) with k | k
  ·exact .inl ⟨k,gu ndP hp hu k⟩
  ·obtain ⟨c,e⟩:=i7 (n:=s.heap.objs.size + 1) k
   refine .inr ⟨.inl k,c,e,?_⟩
   have q:=x.cell y c e
   rw [gy ndP hp hu (by show scope.names.lookup y≠_;rw [k];decide)] at q
   exact q
 ·exact e0.hok.fresh (Nat.le_of_lt (x.above y c (PySem.mem_of_lookup h)))
 ·unfold start
  show _=N.length
  rw [uK,uA,uS]
  omega
theorem rq {CX:CXT} {P:Program} {w:World} {K:PySem.W.Frag} {mg:Str→Option Value} {base:Heap} {k:Nat} {f:Addr} {name qual:Str} {params:Arguments} {body:List Stmt} {scope:Scope} {dV kV doc pm cdv ct oc:Value} {an od:Option Addr}
    {osl:Array (Option Value)} {N ps:List Str} {sp:Sp} (lk:K.lookup f=some ⟨oc,od,.func (PySem.W.fnOf name qual params body scope dV kV doc pm an cdv ct),osl⟩) (hcd:PySem.W.codeIn K cdv qual=true) (S:ar N ps scope)
    (len:∀ vs H Q E,sp vs H Q E→vs.length=ps.length)
    (hbody:∀ (A:Around) (outer:List Env) (s:Shared) (H:Hp) (vs:List V) (Q:VK) (E:XK),Room k (A.deeper (envOfC qual scope s.heap.objs.size f cdv))→sp vs H Q E →
      ∃ t,PSs (cxOf CX P w K mg base N qual scope f cdv A outer s H E) body t∧t { nx:=fun _ H'=>Q .non H',rt:=Q } (start N vs) H) :
    FnOk P w K mg base CX (k + 1) f (PySem.W.fnOf name qual params body scope dV kV doc pm an cdv ct) ps sp:=by
  refine⟨len,fun A outer s H args us vs Q E hr e0 hb r hsp=>?_⟩
  have hl:=len _ _ _ _ hsp
  have KX:K.In s.heap:=e0.mod.kin.keeps fun b o e=>(e0.bs b o e).1
  have lim:s.heap.NoLimit:=e0.mod.nolimit.keeps fun b o e=>(e0.bs b o e).1
  have hkind:∀ y∈ps.zip us,scope.names.lookup y.1=some .local∨(scope.names.lookup y.1=some .cell∧((cellsFrom (s.heap.objs.size + 1) scope.names []).lookup y.1).isSome=true):=fun ⟨n,v⟩ hy=>by
    rcases S.par n (List.of_mem_zip hy).1 with q | q
    · exact .inl q
    · exact .inr ⟨q,PySem.W.cellsFrom_some _ _ _ (.inl q)⟩
  refine codeAny_call_function hr.depth (KX _ _ lk) rfl S.co S.gen rfl (PySem.W.codeRec_of KX hcd) (hb _ _ _ _ ?_)
  refine wpAny_newFunctionEnv_cells S.kind hkind fun env he s1 x=>?_
  subst he
  refine⟨lim.keeps x.toInCall.keep,codeAny_func ?_⟩
  obtain ⟨t,ht,hq⟩:=hbody A outer s H vs Q E (hr.deeper _) hsp
  have I:Inv (cxOf CX P w K mg base N qual scope f cdv A outer s H E) [] (start N vs) H s1:=lz S hr.hd e0 hl r x
  refine wpAny_mono (ht [] s1 (start N vs) H _ I hq) (fun fl s' hs=>?_) fun e s' hs=>hs
  have fin:∀ {σ':St} {H':Hp} {v:V} {u:Value},Inv (cxOf CX P w K mg base N qual scope f cdv A outer s H E) [] σ' H' s'→RelV v u→Q v H'→CE outer P w H s Q u s' :=
    fun {σ' H' v u} J rv q=>⟨v,H',J.os,J.bare,J.base,J.hok,rv,q⟩
  cases fl with
  | ret u =>
    obtain ⟨v,σ',H',J,rv,q⟩:=hs
    exact fin J rv q
  | next =>
    obtain ⟨σ',H',J,q⟩:=hs
    exact fin (v:=V.non) (u:=Value.none) J rfl q
  | brk =>
    obtain ⟨_,_,_,q⟩:=hs
    exact False.elim q
  | cont =>
    obtain ⟨_,_,_,q⟩:=hs
    exact False.elim q
end L2
namespace L2
open PySem PySem.Spec PyProof.Rows
section
variable {X:Cx} {x:Str} {p pos:Pos} {e:Expr} {es:List Expr} {t:TA} {id T:String} {r:List V→Hp→VK→Prop}
def tCB (r:List V→Hp→VK→Prop) (t:TA):TE:=fun σ H Q=>t σ H fun vs H1=>r vs H1 Q
theorem cI (hc:bx X (.builtin id) r) (hg:Gl X x) (hm:X.mg x=none) (hv:bootBuiltins x=some (.builtin id)) (ha:PA X (e :: es) t) (hn:x≠"__name__":=by decide) (hdb:(x == ("__debug__":Str))=false:=by decide)
  (he:starEach (e :: es) X.env=(false,eval e X.env) :: starEach es X.env:=by rfl) (hpl:(backTo pos (starEach es X.env)).any (·.1)=false:=by rfl):PE X (.Call (.Name x p) (e :: es) [] pos) (tCB r t):=by
 intro pins s σ H Q I h
 refine wpAny_Call_Name_kw (i5 I hg hm hv ?_ hn hdb)
 exact PyProof.Rows.callWith_builtin1 (thn (ha pos pins s σ H _ I h) fun us s1 ⟨vs,H1,I1,r1,q1⟩=>hc pins s1 σ H1 vs us Q I1 r1 q1) he hpl
theorem gq (hc:bx X (.type T) r) (hg:Gl X x) (hm:X.mg x=none) (hv:bootBuiltins x=some (.type T)) (ha:PA X (e :: es) t) (hn:x≠"__name__":=by decide) (hdb:(x == ("__debug__":Str))=false:=by decide)
  (he:starEach (e :: es) X.env=(false,eval e X.env) :: starEach es X.env:=by rfl) (hpl:(backTo pos (starEach es X.env)).any (·.1)=false:=by rfl):PE X (.Call (.Name x p) (e :: es) [] pos) (tCB r t):=by
 intro pins s σ H Q I h
 refine wpAny_Call_Name_kw (i5 I hg hm hv ?_ hn hdb)
 exact PyProof.Rows.callWith_type1 (thn (ha pos pins s σ H _ I h) fun us s1 ⟨vs,H1,I1,r1,q1⟩=>hc pins s1 σ H1 vs us Q I1 r1 q1) he hpl
end
end L2
namespace HT
open PySem PyProof.Rows
section
open PySem.SeqAt
open PySem.AutoSeq1 (wpAny_loadPart')
open PySem.MeetsSeq PySem.MeetsSeq2 PySem.MeetsSeq3
end
section
variable {prog:Program} {w:World} {A:Around} {E:Value→Shared→Prop} {s:Shared}
theorem cat_tup {t b:Addr} {vs ws:List Value} {Q:Value→Shared→Prop} (ht:IsTup s.heap t vs.toArray) (hb:IsTup s.heap b ws.toArray) (hv:vs≠[])
  (h1:ws=[]→Q (.ref t) s) (h2:ws≠[]→Q (.ref s.heap.objs.size) { s with heap:=s.heap.push { cls:=.type "tuple",data:=.seq (vs++ws).toArray } })
  (hsz:vs.length + ws.length≤sizeLine):wpAny (model prog w) A (binaryOp .Add (.ref t) (.ref b)) Q E s:=by
 obtain ⟨⟨cls,dd,data,sl⟩,ho,hc,n,hd⟩:=id ht
 obtain ⟨⟨cls2,dd2,data2,sl2⟩,ho2,hc2,n2,hd2⟩:=id hb
 simp only at hc hd hc2 hd2
 subst hc hd hc2 hd2
 have e:vs.toArray++ws.toArray=(vs++ws).toArray:=by simp
 by_cases hw:ws=[]
 ·exact concat_meets ⟨_,ho,rfl⟩ ⟨_,ho2,rfl⟩ noFill_tuple_add seq_tuple_add PySem.F.slot_tuple_add PySem.F.entry_tuple_add (PySem.F.args_tuple_add_2 _ _)
   (tuple_addW1 t b vs.toArray ws.toArray n n2 dd dd2 sl sl2 (by simpa using hv) (by simp [hw])) ⟨ho,ho2,h1 hw⟩
 ·refine concat_meets ⟨_,ho,rfl⟩ ⟨_,ho2,rfl⟩ noFill_tuple_add seq_tuple_add PySem.F.slot_tuple_add PySem.F.entry_tuple_add (PySem.F.args_tuple_add_2 _ _)
   (tuple_addW2 t b vs.toArray ws.toArray n n2 dd dd2 sl sl2 (by simpa using hv) (by simpa using hw) (by rw [uT,uT];exact hsz)) ⟨ho,ho2,?_⟩
  rw [e]
  exact h2 hw
def sIx (n d:Nat):Option Int→Nat
 | none=>d
 | some v=>if v < 0 then (v + (n:Int)).toNat else min v.toNat n
theorem sIx_none (n d:Nat):sIx n d none=d:=rfl
theorem sIx_nat (n d k:Nat):sIx n d (some (k:Int))=min k n:=by
 show (if (k:Int) < 0 then ((k:Int) + (n:Int)).toNat else min (k:Int).toNat n)=min k n
 rw [if_neg (by omega),Int.toNat_natCast]
theorem rY (n d:Nat) (hd:d≤n) (o:Option Int):sIx n d o≤n:=by
 cases o with
 | none=>exact hd
 | some v =>
  show (if v < 0 then (v + (n:Int)).toNat else min v.toNat n)≤n
  by_cases hv:v < 0
  ·rw [if_pos hv];omega
  ·rw [if_neg hv];exact Nat.min_le_right _ _
theorem lF (v:Int) (n d:Nat):(if v < 0 then max (v + (n:Int)) 0 else min v (n:Int))=((sIx n d (some v):Nat):Int):=by
 show (if v < 0 then max (v + (n:Int)) 0 else min v (n:Int))=(((if v < 0 then (v + (n:Int)).toNat else min v.toNat n):Nat):Int)
 by_cases hv:v < 0
 ·simp only [if_pos hv];omega
 ·simp only [if_neg hv];omega
theorem jw (lo hi:Option Int) (n:Nat):Builtin.Slice.sliceAdjust lo hi 1 (n:Int)=(((sIx n 0 lo:Nat):Int),((sIx n n hi:Nat):Int)):=by
 have h1:¬ ((1:Int) < 0):=by omega
 unfold Builtin.Slice.sliceAdjust
 simp only [h1,if_false]
 refine Prod.ext ?_ ?_
 ·cases lo with
  | none=>rfl
  | some v=>exact lF v n 0
 ·cases hi with
  | none=>rfl
  | some v=>exact lF v n n
theorem jW (i j:Nat):Builtin.Slice.slicePlaces (i:Int) (j:Int) 1=j - i:=by
 unfold Builtin.Slice.slicePlaces
 have h1:(1:Int) > 0:=by omega
 simp only [h1,if_true,Int.ediv_one]
 split<;>omega
theorem fk {v:Value} {o:Option Int} {Q:Option Int→Shared→Prop} (p:IsPart v o) (h:Q o s):wpAny (model prog w) A (Builtin.Slice.slicePartIndex v) Q E s:=by
 cases p with
 | none=>exact slicePart_none h
 | int i t=>exact slicePart_int h
theorem dO {sl:Addr} {vl vu:Value} {lo hi:Option Int} {n:Nat} {Q:Int×Int×Nat→Shared→Prop} (hs:s.heap.IsSliceOf sl vl vu .none) (pl:IsPart vl lo) (pu:IsPart vu hi)
  (h:Q (((sIx n 0 lo:Nat):Int),1,sIx n n hi - sIx n 0 lo) s):wpAny (model prog w) A (Builtin.Slice.sliceApplied (.ref sl) (pure (n:Int))) Q E s:=by
 obtain ⟨os,hos,hcs,hds⟩:=id hs
 unfold Builtin.Slice.sliceApplied Builtin.Slice.sliceFields
 refine wpAny_bind (wpAny_bind (wpAny_field hos hds (x:=vl) rfl (wpAny_bind (wpAny_field hos hds (x:=vu) rfl (wpAny_bind (wpAny_field hos hds (x:=.none) rfl (wpAny_pure ?_)))))))
 refine wpAny_bind (slicePart_none ?_)
 show wpAny _ _ (if ((1:Int) == 0)=true then _ else _) _ _ s
 rw [if_neg (by decide)]
 refine wpAny_bind (fk pl (wpAny_bind (fk pu (wpAny_bind (wpAny_pure ?_)))))
 show wpAny _ _ (match Builtin.Slice.sliceAdjust lo hi 1 (n:Int) with | (lo,hi)=>pure (lo,(1:Int),Builtin.Slice.slicePlaces lo hi 1)) _ _ s
 rw [jw lo hi n]
 show wpAny _ _ (pure (((sIx n 0 lo:Nat):Int),(1:Int),Builtin.Slice.slicePlaces ((sIx n 0 lo:Nat):Int) ((sIx n n hi:Nat):Int) 1)) _ _ s
 rw [jW]
 exact wpAny_pure h
theorem ng (xs:Array Value) (i k:Nat):((List.range k).filterMap fun (m:Nat)=>xs[((i:Int) + (m:Int) * 1).toNat]?).toArray=((xs.toList.drop i).take k).toArray:=by
 have e:(fun (m:Nat)=>xs[((i:Int) + (m:Int) * 1).toNat]?)=fun m=>xs[i + m]?:=by
  funext m
  have:((i:Int) + (m:Int) * 1).toNat=i + m:=by omega
  rw [this]
 rw [e]
 have:=pick_run xs i k
 rw [List.filterMap_map] at this
 have e2:((fun x=>xs[x]?) ∘ fun x=>i + x)=fun m=>xs[i + m]?:=rfl
 rw [e2] at this
 rw [this]
theorem getItem_tuple_cut {t sl:Addr} {items:Array Value} {vl vu:Value} {lo hi:Option Int} {Q:Value→Shared→Prop} (ht:IsTup s.heap t items) (hs:s.heap.IsSliceOf sl vl vu .none) (pl:IsPart vl lo) (pu:IsPart vu hi)
  (hw:¬ (sIx items.size 0 lo=0∧sIx items.size items.size hi=items.size))
  (h:Q (.ref s.heap.objs.size) { s with heap:=s.heap.push { cls:=.type "tuple",data:=.seq ((items.toList.drop (sIx items.size 0 lo)).take (sIx items.size items.size hi - sIx items.size 0 lo)).toArray } })
  (hsz:items.size≤sizeLine):wpAny (model prog w) A (getItem (.ref t) (.ref sl)) Q E s:=by
 have htake:sizeOk (.seq ((items.toList.drop (sIx items.size 0 lo)).take (sIx items.size items.size hi - sIx items.size 0 lo)).toArray):=by
  show ((items.toList.drop (sIx items.size 0 lo)).take (sIx items.size items.size hi - sIx items.size 0 lo)).toArray.size≤sizeLine
  rw [uT,uX,List.length_drop,Array.length_toList]
  omega
 have hj:sIx items.size items.size hi≤items.size:=rY _ _ (Nat.le_refl _) hi
 obtain ⟨os,hos,hcs,hds⟩:=id hs
 have hTs:s.TypeIs (.ref sl) "slice":=⟨os,hos,hcs⟩
 unfold getItem
 try with_reducible refine wpAny_holding ?_
 first | refine wpAny_bind (wpAny_pure ?_) | skip
 refine wpAny_bind (wpAny_sequenceKey ht.typeIs (by decide) ?_)
 refine wpAny_bind (wpAny_callSpecial?_slot (name:=Str.ofString "__getitem__") ht.typeIs PyProof.Rows.slot_tuple_getitem
  (wpAny_call_entry PyProof.Rows.slot_tuple_getitem ht.typeIs entry_tuple_getitem ?_ (args_tuple_getitem _ _)))
 show wpAny _ _ (Builtin.Tuple.tupleItemsOf (.ref t) >>= _) _ _ s
 refine wpAny_bind (tupleItemsOf_ ht ?_)
 refine wpAny_bind (wpAny_typeOf hTs ?_)
 rw [if_pos (by decide)]
 refine wpAny_bind (dO hs pl pu ?_)
 have hno:¬ ((((sIx items.size 0 lo:Nat):Int) == 0 && (1:Int) == 1 && (sIx items.size items.size hi - sIx items.size 0 lo) == items.size)=true):=by
  intro q
  rw [Bool.and_eq_true,Bool.and_eq_true] at q
  have q1:((sIx items.size 0 lo:Nat):Int)=0:=eq_of_beq q.1.1
  have q2:sIx items.size items.size hi - sIx items.size 0 lo=items.size:=eq_of_beq q.2
  exact hw ⟨by omega,by omega⟩
 show wpAny _ _ (if (((sIx items.size 0 lo:Nat):Int) == 0 && (1:Int) == 1 && (sIx items.size items.size hi - sIx items.size 0 lo) == items.size)=true then _ else _) _ _ s
 rw [if_neg hno,ng]
 first
  | exact wpAny_bind (m:=Builtin.Tuple.tupleExact _) (wpAny_newObj_type (wpAny_pure ⟨_,rfl,wpAny_pure h⟩) htake)
  | exact wpAny_bind (m:=Builtin.Tuple.tupleExact _) (wpAny_newObj_type (wpAny_bind (wpAny_pure (wpAny_pure ⟨_,rfl,wpAny_pure h⟩))) htake)
  | exact wpAny_bind (wpAny_bind (m:=Builtin.Tuple.tupleExact _) (wpAny_newObj_type (wpAny_pure (wpAny_pure ⟨_,rfl,wpAny_pure h⟩)) htake))
  | exact wpAny_bind (wpAny_bind (m:=Builtin.Tuple.tupleExact _) (wpAny_newObj_type (wpAny_pure ⟨_,rfl,wpAny_pure h⟩) htake))
end
end HT
namespace L2
open PySem PySem.Spec PyProof.Rows
abbrev TO:=St→Hp→(Option Int→Hp→Prop)→Prop
def PO (X:Cx) (e:Option Expr) (t:TO):Prop :=
 ∀ (pins:List (Addr×Obj)) (s:Shared) (σ:St) (H:Hp) (Q:Option Int→Hp→Prop),Inv X pins σ H s→t σ H Q →
  wpAny (model X.prog X.w) X.A (evalPart e X.env) (fun u s'=>∃ o H',Inv X pins σ H' s'∧IsPart u o∧Q o H') X.xe s
def pH:TO:=fun _ H Q=>Q none H
def uc (t:TE):TO:=fun σ H Q=>t σ H fun x H1=>∃ i,x=.int i∧Q (some i) H1
section
variable {X:Cx} {e:Expr} {te:TE} {lo hi:Option Expr} {tl th:TO} {pos p2:Pos}
theorem pi:PO X none pH:=by
 intro pins s σ H Q I h
 rw [evalPart_none]
 exact wpAny_pure ⟨none,H,I,.none,h⟩
theorem qp (h:PE X e te):PO X (some e) (uc te):=by
 intro pins s σ H Q I hw
 rw [evalPart_some]
 refine thn (h pins s σ H _ I hw) fun u s1 ⟨x,H1,I1,r1,q1⟩=>?_
 obtain ⟨i,rfl,q⟩:=q1
 obtain ⟨t,rfl⟩:=r1
 exact⟨some i,H1,I1,.int i t,q⟩
def SlR (X:Cx) (r:V→Option Int→Option Int→Hp→VK→Prop):Prop :=
 ∀ (pins:List (Addr×Obj)) (s:Shared) (σ:St) (H:Hp) (x:V) (v vl vu:Value) (lo hi:Option Int) (sl:Addr) (Q:VK),Inv X pins σ H s→RelV x v→s.heap.IsSliceOf sl vl vu .none→IsPart vl lo→IsPart vu hi→r x lo hi H Q →
  ∃ T id,typeLookup (.type T) "__getitem__"=pure (some (.builtin id))∧s.TypeIs v T∧wpAny (model X.prog X.w) X.A (getItem v (.ref sl)) (EP X pins σ Q) X.xe s
theorem SlR.or {r r':V→Option Int→Option Int→Hp→VK→Prop} (h:SlR X r) (h':SlR X r'):SlR X (fun x lo hi H Q=>r x lo hi H Q∨r' x lo hi H Q):=by
 intro pins s σ H x v vl vu lo hi sl Q I rx hs pl pu q
 rcases q with q | q
 ·exact h pins s σ H x v vl vu lo hi sl Q I rx hs pl pu q
 ·exact h' pins s σ H x v vl vu lo hi sl Q I rx hs pl pu q
def tSl (r:V→Option Int→Option Int→Hp→VK→Prop) (te:TE) (tl th:TO):TE:=fun σ H Q=>te σ H fun x H1=>tl σ H1 fun l H2=>th σ H2 fun u H3=>r x l u H3 Q
theorem nc {r:V→Option Int→Option Int→Hp→VK→Prop} (hr:SlR X r) (he:PE X e te) (hl:PO X lo tl) (hu:PO X hi th):PE X (.Subscript e (.Slice lo hi none p2) pos) (tSl r te tl th):=by
 intro pins s σ H Q I h
 refine Subscript_ (thn (he pins s σ H _ I h) fun v s1 ⟨x,H1,I1,r1,q1⟩=>?_)
 refine wpAny_Slice (thn (hl pins s1 σ H1 _ I1 q1) fun vl s2 ⟨l,H2,I2,pl,q2⟩=>thn (hu pins s2 σ H2 _ I2 q2) fun vu s3 ⟨u,H3,I3,pu,q3⟩=>?_)
 rw [evalPart_none]
 refine wpAny_pure ?_
 have I4:Inv X pins σ H3 { s3 with heap:=s3.heap.push { cls:=.type "slice",data:=.fields #[vl,vu,.none] } }:=I3.kept (t':=s3.toks) fun b ob q=>uE _ q
 obtain ⟨T,id,hT,ht,hg⟩:=hr pins { s3 with heap:=s3.heap.push { cls:=.type "slice",data:=.fields #[vl,vu,.none] } } σ H3 x v vl vu l u s3.heap.objs.size Q I4 r1 (Heap.IsSliceOf.new ..) pl pu q3
 show wpAny (model X.prog X.w) X.A (subscriptTail e (.Slice lo hi none p2) v (.ref s3.heap.objs.size)) (EP X pins σ Q) X.xe { s3 with heap:=s3.heap.push { cls:=.type "slice",data:=.fields #[vl,vu,.none] } }
 exact tail_any (ops:=[.ref s3.heap.objs.size,v]) ht hT hg (by with_unfolding_all rfl)
def cutV (xs:List V) (lo hi:Option Int):List V:=(xs.drop (HT.sIx xs.length 0 lo)).take (HT.sIx xs.length xs.length hi - HT.sIx xs.length 0 lo)
theorem eu (xs:List V) (lo hi:Option Int):(cutV xs lo hi).length≤xs.length:=by
 unfold cutV
 rw [uX,List.length_drop]
 omega
def rSlT (K:PySem.W.Frag):V→Option Int→Option Int→Hp→VK→Prop:=fun x lo hi H Q=>∃ a xs,x=.ref a∧SqT K H a xs ∧
 ¬ (HT.sIx xs.length 0 lo=0∧HT.sIx xs.length xs.length hi=xs.length)∧∀ p,H p=none→Q (.ref p) (upd H p (.tup (cutV xs lo hi)))
theorem rb:SlR X (rSlT X.K):=by
 intro pins s σ H x v vl vu lo hi sl Q I rx hs pl pu h
 obtain ⟨a,xs,rfl,hx,hw,q⟩:=h
 cases rx
 obtain ⟨its,r,ht,hz⟩:=I.tuple hx
 have hlen:its.toArray.size=xs.length:=by rw [uT];exact r.length.symm
 refine⟨"tuple",_,PyProof.Rows.slot_tuple_getitem.lookup,ht.typeIs,?_⟩
 refine HT.getItem_tuple_cut ht hs pl pu (by rw [hlen];exact hw) ?_ (by rw [hlen];exact hz)
 rw [hlen]
 refine⟨.ref s.heap.objs.size,_,I.laid (t':=s.toks) (o:=.tup (cutV xs lo hi)) (fun b ob q=>uE _ q) (Nat.le_refl _) ?_,rfl,q _ (I.hok.fresh (Nat.le_refl _))⟩
 exact⟨uD (eu xs lo hi) hz,_,(r.drop (HT.sIx xs.length 0 lo)).take (HT.sIx xs.length xs.length hi - HT.sIx xs.length 0 lo),IsTup.new _ _⟩
def uq (K:PySem.W.Frag):R2:=fun x y H Q=>∃ a b xs ys,x=.ref a∧y=.ref b∧SqT K H a xs∧SqT K H b ys∧xs≠[]∧xs.length + ys.length≤sizeLine ∧
 (ys=[]→Q (.ref a) H)∧(ys≠[]→∀ p,H p=none→Q (.ref p) (upd H p (.tup (xs++ys))))
theorem Vals.nil_iff {xs:List V} {us:List Value} (r:Vals xs us):us=[]↔xs=[]:=by
 cases r with
 | nil=>simp
 | cons _ _=>simp
theorem qy:OpR X (binaryOp .Add) (uq X.K):=by
 intro pins s σ H x y v u Q I rx ry h
 obtain ⟨a,b,xs,ys,rfl,rfl,ha,hb,hx,hz,q1,q2⟩:=h
 cases rx
 cases ry
 obtain ⟨its,r1,p1,_⟩:=I.tuple ha
 obtain ⟨its2,r2,p2,_⟩:=I.tuple hb
 refine HT.cat_tup p1 p2 (fun z=>hx (r1.nil_iff.mp z)) (fun z=>⟨.ref a,H,I,rfl,q1 (r2.nil_iff.mp z)⟩) (fun z=>?_) (by rw [← r1.length,← r2.length];exact hz)
 refine⟨.ref s.heap.objs.size,_,I.laid (t':=s.toks) (o:=.tup (xs++ys)) (fun b ob q=>uE _ q) (Nat.le_refl _) ?_,rfl,q2 (fun w=>z (r2.nil_iff.mpr w)) _ (I.hok.fresh (Nat.le_refl _))⟩
 exact⟨by rw [uK];exact hz,_,r1.append r2,IsTup.new _ _⟩
end
end L2
namespace L2
open PySem PySem.Spec PyProof.Rows
def ixN (n:Nat) (i:Int):Option Nat:=if 0≤i then (if i < n then some i.toNat else none) else if -(n:Int)≤i then some (i + n).toNat else none
def atI {α:Type} (xs:List α) (i:Int):Option α:=(ixN xs.length i).bind fun j=>xs[j]?
theorem lO {n:Nat} {i:Int} {j:Nat} (h:ixN n i=some j):seqIndex? i n=some j∧j < n∧-(n:Int)≤i∧i < n:=by
 unfold ixN at h
 by_cases h0:0≤i
 ·rw [if_pos h0] at h
  by_cases h1:i < n
  ·rw [if_pos h1] at h
   have e:i.toNat=j:=Option.some.inj h
   exact⟨by rw [seqIndex_of h0 h1,e],by omega,by omega,h1⟩
  ·rw [if_neg h1] at h;cases h
 ·rw [if_neg h0] at h
  by_cases h1:-(n:Int)≤i
  ·rw [if_pos h1] at h
   have e:(i + n).toNat=j:=Option.some.inj h
   exact⟨by rw [seqIndex_neg (by omega) h1,e],by omega,h1,by omega⟩
  ·rw [if_neg h1] at h;cases h
theorem iu {α:Type} {xs:List α} {i:Int} {v:α} (h:atI xs i=some v):∃ j,seqIndex? i xs.length=some j∧xs[j]?=some v∧j < xs.length∧-(xs.length:Int)≤i∧i < xs.length:=by
 unfold atI at h
 cases e:ixN xs.length i with
 | none=>rw [e] at h;cases h
 | some j =>
  rw [e] at h
  obtain ⟨h1,h2,h3,h4⟩:=lO e
  exact⟨j,h1,h,h2,h3,h4⟩
theorem fH {α:Type} (xs:List α) (v:α):atI (xs++[v]) (-1)=some v:=by
 have hl:(xs++[v]).length=xs.length + 1:=by simp
 have e:ixN (xs++[v]).length (-1)=some xs.length:=by
  unfold ixN
  rw [hl,if_neg (by decide),if_pos (by omega)]
  congr 1
  omega
 unfold atI
 rw [e]
 show (xs++[v])[xs.length]?=some v
 simp
def iQ (b:Expr):Prop:=∀ o i,subscripted b false o i=operate [o,i] (getItem o i)
def IxR (X:Cx) (r:R2):Prop :=
 ∀ (value slice:Expr) (pins:List (Addr×Obj)) (s:Shared) (σ:St) (H:Hp) (x y:V) (v u:Value) (Q:VK),Inv X pins σ H s→RelV x v→RelV y u→r x y H Q →
  subscripted slice false v u=operate [v,u] (getItem v u)→wpAny (model X.prog X.w) X.A (subscriptTail value slice v u) (EP X pins σ Q) X.xe s
def MtR (X:Cx) (id:String) (r:V→List V→Hp→VK→Prop):Prop :=
 ∀ (pins:List (Addr×Obj)) (s:Shared) (σ:St) (H:Hp) (x:V) (xs:List V) (v:Value) (us:List Value) (Q:VK),Inv X pins σ H s→RelV x v→Vals xs us→r x xs H Q →
  wpAny (model X.prog X.w) X.A (call (.builtin id) (v :: us)) (EP X pins σ Q) X.xe s
section
variable {X:Cx} {a b:Expr} {ta tb:TE} {pos:Pos}
theorem IxR.or {r r':R2} (h:IxR X r) (h':IxR X r'):IxR X (fun x y H Q=>r x y H Q∨r' x y H Q):=by
 intro value slice pins s σ H x y v u Q I rx ry q hs
 rcases q with q | q
 ·exact h value slice pins s σ H x y v u Q I rx ry q hs
 ·exact h' value slice pins s σ H x y v u Q I rx ry q hs
theorem tf {r:R2} (hr:IxR X r) (ha:PE X a ta) (hb:PE X b tb) (hs:iQ b):PE X (.Subscript a b pos) (tOp r ta tb):=by
 intro pins s σ H Q I h
 exact Subscript_ (binT ha hb I h fun v u s2 x y H2 I2 rx ry q=>hr a b pins s2 σ H2 x y v u Q I2 rx ry q (hs _ _))
def rIxL (K:PySem.W.Frag):R2:=fun x y H Q=>∃ p xs i v,x=.ref p∧y=.int i∧SqL K H p xs∧atI xs i=some v∧Q v H
def rIxT (K:PySem.W.Frag):R2:=fun x y H Q=>∃ p xs i v,x=.ref p∧y=.int i∧SqT K H p xs∧atI xs i=some v∧Q v H
def rIxS:R2:=fun x y H Q=>∃ z i c,x=.str z∧y=.int i∧z.length≤sizeLine∧atI z.cps.toList i=some c∧Q (.str ⟨#[c]⟩) H
theorem kj:IxR X (rIxL X.K):=by
 intro value slice pins s σ H x y v u Q I rx ry h hs
 obtain ⟨p,xs,i,z,rfl,rfl,hq,he,q⟩:=h
 cases rx
 obtain ⟨t,rfl⟩:=ry
 obtain ⟨its,r,pl,hz⟩:=I.list hq
 obtain ⟨j,h1,h2,h3,h4,h5⟩:=iu he
 obtain ⟨w,ew,rw'⟩:=r.get h2
 have hl:=r.length
 have hn:=ge
 have fin:EP X pins σ Q w s:=⟨z,H,I,rw',q⟩
 by_cases h0:0≤i
 ·have hj:i.toNat=j:=by
   rw [seqIndex_of h0 h5] at h1
   exact Option.some.inj h1
  exact item_listR pl.isList h0 (by omega) (by rw [hj];simpa using ew) fin hs
 ·have hj:(i + (its.toArray.size:Int)).toNat=j:=by
   rw [seqIndex_neg (by omega) h4] at h1
   rw [uT,← hl]
   exact Option.some.inj h1
  exact subscriptTail_builtinR (x:=w) pl.isList.typeIs slot_list_getitem.lookup
   (wpAny_getItem_list_neg (Q:=fun r s'=>r=w∧EP X pins σ Q r s') pl.isList (by omega) (by rw [uT]<;>omega) (by omega) (by rw [hj];simpa using ew) ⟨rfl,fin⟩) hs
theorem sI:IxR X (rIxT X.K):=by
 intro value slice pins s σ H x y v u Q I rx ry h hs
 obtain ⟨p,xs,i,z,rfl,rfl,hq,he,q⟩:=h
 cases rx
 obtain ⟨t,rfl⟩:=ry
 obtain ⟨its,r,pl,hz⟩:=I.tuple hq
 obtain ⟨j,h1,h2,h3,h4,h5⟩:=iu he
 obtain ⟨w,ew,rw'⟩:=r.get h2
 have hl:=r.length
 have hn:=ge
 have fin:EP X pins σ Q w s:=⟨z,H,I,rw',q⟩
 exact subscriptTail_builtinR (x:=w) pl.typeIs slot_tuple_getitem.lookup
  (getItem_tuple (j:=j) (Q:=fun r s'=>r=w∧EP X pins σ Q r s') pl (by omega) (by omega) (by rw [uT,← hl];exact h1) (by simpa using ew) ⟨rfl,fin⟩) hs
theorem tI:IxR X rIxS:=by
 intro value slice pins s σ H x y v u Q I rx ry h hs
 obtain ⟨z,i,c,rfl,rfl,hz,he,q⟩:=h
 obtain ⟨t,rfl⟩:=rx
 obtain ⟨t',rfl⟩:=ry
 obtain ⟨j,h1,h2,h3,h4,h5⟩:=iu he
 have hl:z.cps.toList.length=z.length:=by simp [Str.length]
 rw [hl] at h1 h4 h5
 have hn:=ge
 exact tail_any (typeIs_str s z t) slot_str_getitem.lookup (getItem_str (c:=c) (by
  have e1:decide (i < -(2 ^ 63:Int))=false:=decide_eq_false (by omega)
  have e2:decide (i ≥ 2 ^ 63)=false:=decide_eq_false (by omega)
  rw [e1,e2,Bool.or_false]) (by rw [h1];simpa using h2) ⟨.str ⟨#[c]⟩,H,I.tok _,⟨_,rfl⟩,q⟩) hs
def rIx (K:PySem.W.Frag):R2:=fun x y H Q=>rIxL K x y H Q∨rIxT K x y H Q∨rIxS x y H Q
theorem sL:IxR X (rIx X.K):=kj.or (sI.or tI)
theorem jK (its:List Value) (n j:Nat) (u:Value):Obj.mapSeq (·.setIfInBounds j u) { cls:=.type "list",data:=.seq its.toArray n }={ cls:=.type "list",data:=.seq (its.set j u).toArray n }:=by
 simp [Obj.mapSeq]
theorem Inv.lst {pins:List (Addr×Obj)} {σ:St} {H:Hp} {s:Shared} {p:Addr} {xs:List V} (I:Inv X pins σ H s) (h:H p=some (.lst xs)) :
  ∃ (its:List Value) (n:Nat),Vals xs its∧s.heap.get? p=some { cls:=.type "list",data:=.seq its.toArray n }∧xs.length≤sizeLine:=by
 obtain ⟨z,its,n,r,e⟩:=I.hok p _ h
 exact⟨its,n,r,e,z⟩
theorem Inv.lstUpd {pins:List (Addr×Obj)} {σ:St} {H:Hp} {s:Shared} {p:Addr} {xs ys:List V} {its its':List Value} {n n':Nat} {f:Obj→Obj} (I:Inv X pins σ H s) (h:H p=some (.lst xs))
  (ho:s.heap.get? p=some { cls:=.type "list",data:=.seq its.toArray n }) (hf:f { cls:=.type "list",data:=.seq its.toArray n }={ cls:=.type "list",data:=.seq its'.toArray n' }) (r:Vals ys its') (hz:ys.length≤sizeLine) (t:Nat) :
  Inv X pins σ (upd H p (.lst ys)) { s with heap:=s.heap.update p f,toks:=t }:=by
 have e:(s.heap.update p f).get? p=some { cls:=.type "list",data:=.seq its'.toArray n' }:=by
  rw [Heap.get?_update_self f ho (by rw [hf]<;>rfl),hf]
 refine I.write (x:=p) (e:=p) (by rw [h];trivial) (.inl rfl) (fun b u hb q=>(Heap.get?_update_other _ _ (Ne.symm hb)).trans q) ⟨_,e⟩ ?_
 exact⟨hz,its',n',r,e⟩
def ug:V→V→V→Hp→(Hp→Prop)→Prop:=fun o i v H Q=>∃ p xs k j,o=.ref p∧i=.int k∧H p=some (.lst xs)∧ixN xs.length k=some j∧Q (upd H p (.lst (xs.set j v)))
theorem mO:PSet X ug:=by
 intro pins s σ H o i v ov iv u Q I ro ri rv h
 obtain ⟨p,xs,k,j,rfl,rfl,hp,hj,q⟩:=h
 cases ro
 obtain ⟨t,rfl⟩:=ri
 obtain ⟨its,n,r,ho,hz⟩:=I.lst hp
 obtain ⟨h1,h2,h3,h4⟩:=lO hj
 have hl:=r.length
 have hn:=ge
 have I':Inv X pins σ (upd H p (.lst (xs.set j v))) { s with heap:=s.heap.update p (Obj.mapSeq (·.setIfInBounds j u)) } :=
  I.lstUpd hp ho (jK its n j u) (r.set rv j) (by rw [List.length_set];exact hz) s.toks
 by_cases h0:0≤k
 ·have hk:k.toNat=j:=by
   rw [seqIndex_of h0 h4] at h1
   exact Option.some.inj h1
  exact PySem.W.ki_setAt ho h0 (by omega) (by rw [uT,← hl];exact h4) (by rw [hk];exact⟨_,I',q⟩)
 ·have hk:(k + (its.toArray.size:Int)).toNat=j:=by
   rw [seqIndex_neg (by omega) h3] at h1
   rw [uT,← hl]
   exact Option.some.inj h1
  exact PySem.W.ki_setBack ho (by omega) (by rw [uT,← hl];exact h3) (by omega) (by rw [hk];exact⟨_,I',q⟩)
theorem gw (lo hi:Option Int) (n:Nat):(sliceBounds lo hi none n).1=((HT.sIx n 0 lo:Nat):Int)∧(sliceBounds lo hi none n).2.1=((HT.sIx n n hi:Nat):Int)∧(sliceBounds lo hi none n).2.2=1:=by
 refine⟨?_,?_,rfl⟩
 ·cases lo with
  | none=>simp [sliceBounds,HT.sIx]
  | some i =>
   simp only [sliceBounds,HT.sIx,Option.getD_none,show (1:Int) > 0 by decide,if_true]
   by_cases h:i < 0
   ·simp only [h,if_true]<;>omega
   ·simp only [h,if_false]<;>omega
 ·cases hi with
  | none=>simp [sliceBounds,HT.sIx]
  | some i =>
   simp only [sliceBounds,HT.sIx,Option.getD_none,show (1:Int) > 0 by decide,if_true]
   by_cases h:i < 0
   ·simp only [h,if_true]<;>omega
   ·simp only [h,if_false]<;>omega
theorem fC (its:List Value) (lo hi:Option Int):slicePick its.toArray lo hi none=((its.drop (HT.sIx its.length 0 lo)).take (HT.sIx its.length its.length hi - HT.sIx its.length 0 lo)).toArray:=by
 obtain ⟨h1,h2,h3⟩:=gw lo hi its.toArray.size
 unfold slicePick
 rw [h1,h2,h3]
 simp only [sliceRange_one,pick_run,uT]<;>rfl
def rSlL (K:PySem.W.Frag):V→Option Int→Option Int→Hp→VK→Prop:=fun x lo hi H Q=>∃ a xs,x=.ref a∧SqL K H a xs∧∀ p,H p=none→Q (.ref p) (upd H p (.lst (cutV xs lo hi)))
theorem pE:SlR X (rSlL X.K):=by
 intro pins s σ H x v vl vu lo hi sl Q I rx hs pl pu h
 obtain ⟨a,xs,rfl,hx,q⟩:=h
 cases rx
 obtain ⟨its,r,ht,hz⟩:=I.list hx
 have hlen:=r.length
 refine⟨"list",_,slot_list_getitem.lookup,ht.isList.typeIs,?_⟩
 refine wpAny_getItem_list_slice ht.isList hs pl pu .none (by simp) ?_ (by rw [uT]<;>omega)
 rw [fC,← hlen]
 refine⟨.ref s.heap.objs.size,_,I.laid (t':=s.toks) (o:=.lst (cutV xs lo hi)) (fun b ob q=>uE _ q) (Nat.le_refl _) ?_,rfl,q _ (I.hok.fresh (Nat.le_refl _))⟩
 exact⟨uD (eu xs lo hi) hz,_,0,(r.drop (HT.sIx xs.length 0 lo)).take (HT.sIx xs.length xs.length hi - HT.sIx xs.length 0 lo),uW _ rfl⟩
def sd:V→Bool
 | .non=>true
 | .bl _=>true
 | .int _=>true
 | .str _=>true
 | _=>false
def eqV:V→V→Bool
 | .non,.non=>true
 | .bl a,.bl b=>a == b
 | .bl a,.int b=>(if a then 1 else 0) == b
 | .int a,.bl b=>a == (if b then 1 else 0)
 | .int a,.int b=>a == b
 | .str a,.str b=>a == b
 | _,_=>false
theorem i4 {A:Around} {s:Shared} {y x:V} {u v:Value} (ry:RelV y u) (rx:RelV x v) (fy:sd y=true) (fx:sd x=true):SeqAt.EqAt A s u v (eqV y x):=by
 cases y with
 | non =>
  cases ry
  cases x with
  | non=>cases rx;exact SeqAt.EqAt.same _
  | bl b=>cases rx;exact SeqAt.EqAt.none_bool b
  | int b=>obtain ⟨t,rfl⟩:=rx;exact SeqAt.EqAt.none_int b t
  | str b=>obtain ⟨t,rfl⟩:=rx;exact SeqAt.EqAt.none_str b t
  | _=>exact absurd (show false=true from fx) Bool.false_ne_true
 | bl a =>
  cases ry
  cases x with
  | non=>cases rx;exact SeqAt.EqAt.bool_none a
  | bl b=>cases rx;exact SeqAt.EqAt.bool_bool a b
  | int b=>obtain ⟨t,rfl⟩:=rx;exact SeqAt.EqAt.bool_int a b t
  | str b=>obtain ⟨t,rfl⟩:=rx;exact SeqAt.EqAt.bool_str a b t
  | _=>exact absurd (show false=true from fx) Bool.false_ne_true
 | int a =>
  obtain ⟨t',rfl⟩:=ry
  cases x with
  | non=>cases rx;exact SeqAt.EqAt.int_none a t'
  | bl b=>cases rx;exact SeqAt.EqAt.int_bool a t' b
  | int b=>obtain ⟨t,rfl⟩:=rx;exact SeqAt.EqAt.int_int a t' b t
  | str b=>obtain ⟨t,rfl⟩:=rx;exact SeqAt.EqAt.int_str a t' b t
  | _=>exact absurd (show false=true from fx) Bool.false_ne_true
 | str a =>
  obtain ⟨t',rfl⟩:=ry
  cases x with
  | non=>cases rx;exact SeqAt.EqAt.str_none a t'
  | bl b=>cases rx;exact SeqAt.EqAt.str_bool a t' b
  | int b=>obtain ⟨t,rfl⟩:=rx;exact SeqAt.EqAt.str_int a t' b t
  | str b=>obtain ⟨t,rfl⟩:=rx;exact SeqAt.EqAt.str_str a t' b t
  | _=>exact absurd (show false=true from fx) Bool.false_ne_true
 | _=>exact absurd (show false=true from fy) Bool.false_ne_true
theorem dJ:bx X (.builtin "len") (fun xs H Q=>∃ p ys,xs=[.ref p]∧(SqL X.K H p ys∨SqT X.K H p ys)∧Q (.int ys.length) H):=by
 intro pins s σ H xs us Q I r h
 obtain ⟨p,ys,rfl,hq,q⟩:=h
 obtain ⟨u,rfl,rx⟩:=fP r
 cases rx
 have hn:=ge
 rcases hq with hq | hq
 ·obtain ⟨its,r',pl,hz⟩:=I.list hq
  have hlen:=r'.length
  exact Calls.call_len_list pl.isList (by simp only [uT]<;>omega) ⟨.int ys.length,H,I.tok _,⟨s.toks + 1,by rw [uT,hlen]⟩,q⟩
 ·obtain ⟨its,r',pl,hz⟩:=I.tuple hq
  have hlen:=r'.length
  exact len_tuple pl (by simp only [uT]<;>omega) ⟨.int ys.length,H,I.tok _,⟨s.toks + 1,by rw [uT,hlen]⟩,q⟩
theorem de:bx X (.type "tuple") (fun xs H Q=>∃ p ys,xs=[.ref p]∧((SqL X.K H p ys∧∀ l,H l=none→Q (.ref l) (upd H l (.tup ys)))∨(SqT X.K H p ys∧Q (.ref p) H))):=by
 intro pins s σ H xs us Q I r h
 obtain ⟨p,ys,rfl,h⟩:=h
 obtain ⟨u,rfl,rx⟩:=fP r
 cases rx
 rcases h with ⟨hq,q⟩ | ⟨hq,q⟩
 ·obtain ⟨its,r',pl,hz⟩:=I.list hq
  have hlen:=r'.length
  refine call_tuple_list pl.isList (fun h' kp=>?_) (by simp only [uT]<;>omega)
  have I1:Inv X pins σ H { s with heap:=h' }:=I.kept (t':=s.toks) kp
  have I2:Inv X pins σ (upd H h'.objs.size (.tup ys)) { s with heap:=h'.push { cls:=.type "tuple",data:=.seq its.toArray } } :=
   I1.laid (t':=s.toks) (fun b o e=>uE _ e) (Nat.le_refl _) (show bq X.prog X.w _ _ _ (.tup ys) from ⟨hz,its,r',IsTup.new _ _⟩)
  exact⟨.ref h'.objs.size,_,I2,rfl,q _ (I1.hok.fresh (Nat.le_refl _))⟩
 ·obtain ⟨its,r',pl,hz⟩:=I.tuple hq
  exact call_tuple_same pl ⟨.ref p,H,I,rfl,q⟩
def tyV (K:PySem.W.Frag) (T:String) (x:V) (H:Hp):Prop:=match x with
 | .str _=>T="str"
 | .int _=>T="int"
 | .ref p=>(T="list"∧∃ xs,SqL K H p xs)∨(T="tuple"∧∃ o,K.lookup p=some o∧o.cls=.type "tuple"∧o.dict=none) ∨
   (T="dict"∧((∃ kvs,H p=some (.dK kvs))∨∃ kvs,H p=some (.dT kvs)))∨(T="set"∧∃ S n,H p=some (.set S n))
 | _=>False
theorem ni {pins:List (Addr×Obj)} {σ:St} {H:Hp} {s:Shared} {T:String} {x:V} {v:Value} (I:Inv X pins σ H s) (r:RelV x v) (ty:tyV X.K T x H) :
  s.TypeIs v T∧∀ a,v=.ref a→∃ ob,s.heap.get? a=some ob∧ob.dict=none:=by
 cases x with
 | str z =>
  obtain ⟨t,rfl⟩:=r
  cases (show T="str" from ty)
  exact⟨typeIs_str s z t,fun _ e=>nomatch e⟩
 | int i =>
  obtain ⟨t,rfl⟩:=r
  cases (show T="int" from ty)
  exact⟨typeIs_int s i t,fun _ e=>nomatch e⟩
 | ref p =>
  cases r
  rcases ty with ⟨rfl,xs,hq⟩ | ⟨rfl,o,hk,hc,hd⟩ | ⟨rfl,hk⟩ | ⟨rfl,S,n,hk⟩
  ·obtain ⟨its,_,pl,_⟩:=I.list hq
   refine⟨pl.isList.typeIs,fun a e=>?_⟩
   cases e
   obtain ⟨o,n,e,c,hd,_⟩:=pl
   exact⟨o,e,hd⟩
  ·refine⟨⟨o,I.kIn p o hk,hc⟩,fun a e=>?_⟩
   cases e
   exact⟨o,I.kIn _ o hk,hd⟩
  ·have z:∃ o,s.heap.get? p=some o∧o.ExactDict:=by
    rcases hk with ⟨kvs,hk⟩ | ⟨kvs,hk⟩
    ·obtain ⟨_,_,_,_,o,_,_,e,ex,_⟩:=I.hok p _ hk
     exact⟨o,e,ex⟩
    ·obtain ⟨_,_,_,_,o,_,_,e,ex,_⟩:=I.hok p _ hk
     exact⟨o,e,ex⟩
   obtain ⟨o,e,ex⟩:=z
   refine⟨⟨o,e,ex.1⟩,fun a e2=>?_⟩
   cases e2
   exact⟨o,e,ex.2.1⟩
  ·obtain ⟨o,_,_,_,e,ex,_⟩:=I.hok p _ hk
   refine⟨⟨o,e,ex.1⟩,fun a e2=>?_⟩
   cases e2
   exact⟨o,e,ex.2.1⟩
 | _=>exact False.elim ty
def tBM0 (K:PySem.W.Frag) (T:String) (r:V→List V→Hp→VK→Prop) (to:TE):TE:=fun σ H Q=>to σ H fun x H1=>tyV K T x H1∧r x [] H1 Q
def tBM (K:PySem.W.Frag) (T:String) (r:V→List V→Hp→VK→Prop) (to:TE) (t:TA):TE:=fun σ H Q=>to σ H fun x H1=>tyV K T x H1∧t σ H1 fun xs H2=>r x xs H2 Q
variable {o e:Expr} {es:List Expr} {to:TE} {t:TA} {name:Str} {apos cpos:Pos} {T id:String} {r:V→List V→Hp→VK→Prop}
theorem lq (pa:PlainAttrs T) (slot:Slot T name id) (hty:typeOf (.builtin id)=pure (.type "method_descriptor")) (hm:MtR X id r) (ho:PE X o to)
  (hbase:attributeBase o name X.env (eval o X.env)=eval o X.env:=by rfl) (hline:(apos.endLine == cpos.line)=true:=by rfl):PE X (.Call (.Attribute o name apos) [] [] cpos) (tBM0 X.K T r to):=by
 intro pins s σ H Q I h
 refine wpAny_Call_method0_late hbase hline (thn (ho pins s σ H _ I h) fun v s1 ⟨x,H1,I1,r1,ty,q1⟩=>?_)
 obtain ⟨h1,h2⟩:=ni I1 r1 ty
 exact⟨T,id,pa,slot,hty,h1,h2,Calls.callWith_builtin rfl (PySem.evalArgs_none (hm pins s1 σ H1 x [] v [] Q I1 r1 .nil q1))⟩
theorem tN (pa:PlainAttrs T) (slot:Slot T name id) (hty:typeOf (.builtin id)=pure (.type "method_descriptor")) (hm:MtR X id r) (ho:PE X o to) (ha:PA X (e :: es) t)
    (hbase:attributeBase o name X.env (eval o X.env)=eval o X.env:=by rfl)
    (hfew:((backTo cpos (starEach (e :: es) X.env)).all (fun x=>!x.1) && (backToKw cpos (keywordEach [] X.env)).all (fun x=>x.1.isSome)
      && decide ((e :: es).length + ([]:List Keyword).length + (if ([]:List Keyword).isEmpty then 0 else 1) < 30))=true:=by rfl)
    (hline:(apos.endLine == cpos.line)=true:=by rfl) (hs:starEach (e :: es) X.env=(false,eval e X.env) :: starEach es X.env:=by rfl) (hplain:(backTo cpos (starEach es X.env)).any (·.1)=false:=by rfl) :
    PE X (.Call (.Attribute o name apos) (e :: es) [] cpos) (tBM X.K T r to t):=by
  intro pins s σ H Q I h
  refine wpAny_Call_method_late hbase hfew hline rfl (thn (ho pins s σ H _ I h) fun v s1 ⟨x,H1,I1,r1,ty,q1⟩=>?_)
  obtain ⟨h1,h2⟩:=ni I1 r1 ty
  refine⟨T,id,pa,slot,hty,h1,h2,?_⟩
  have hA:=ha cpos pins s1 σ H1 _ I1 q1
  rw [hs] at hA ⊢
  refine Calls.callWith_builtin (by show (false || (backTo cpos (starEach es X.env)).any (·.1))=false;rw [hplain]<;>rfl) (Calls.evalArgs_plain ?_)
  exact thn hA fun us s2 ⟨vs,H2,I2,r2,q2⟩=>hm pins s2 σ H2 x vs v us Q I2 r1 r2 q2
end
end L2
namespace L2
open PySem PySem.Spec PyProof.Rows
def MtM (X:Cx) (id:String) (r:V→List V→Hp→VK→Prop):Prop :=
 ∀ (pins:List (Addr×Obj)) (s:Shared) (σ:St) (H:Hp) (x:V) (xs:List V) (v:Value) (us:List Value) (Q:VK),Inv X pins σ H s→RelV x v→Vals xs us→r x xs H Q →
  wpAny (model X.prog X.w) X.A (call (.builtin id) (v :: us)) (EP X pins σ Q) X.xe s
theorem Vals.one:∀ {x:V} {us:List Value},Vals [x] us→∃ u,us=[u]∧RelV x u
 | _,_,.cons r .nil=>⟨_,rfl,r⟩
theorem Vals.zero:∀ {us:List Value},Vals [] us→us=[]
 | _,.nil=>rfl
theorem Vals.dropLast {xs:List V} {us:List Value} (h:Vals xs us):Vals xs.dropLast us.dropLast:=by
 induction h with
 | nil=>exact .nil
 | cons r t ih =>
  cases t with
  | nil=>exact .nil
  | cons q t'=>exact .cons r ih
theorem ju {α:Type} (l:List α):l.eraseIdx (l.length - 1)=l.dropLast:=by
 induction l with
 | nil=>rfl
 | cons a r ih =>
  cases r with
  | nil=>rfl
  | cons b r =>
   have e:(a :: b :: r).length - 1=((b :: r).length - 1) + 1:=by
    have h1:(a :: b :: r).length=r.length + 2:=rfl
    have h2:(b :: r).length=r.length + 1:=rfl
    omega
   rw [e,List.eraseIdx_cons_succ,ih]
   all_goals rfl
section
variable {X:Cx} {pins:List (Addr×Obj)} {σ:St} {H:Hp} {s:Shared} {l b:Addr} {xs ys zs:List V}
theorem Inv.lset {its its':List Value} {n:Nat} {f:Array Value→Array Value} {t':Nat} (I:Inv X pins σ H s) (hH:H l=some (.lst xs))
  (e:s.heap.get? l=some { cls:=.type "list",data:=.seq its.toArray n }) (hf:f its.toArray=its'.toArray) (hv:Vals ys its') (hz:ys.length≤sizeLine) :
  Inv X pins σ (upd H l (.lst ys)) { s with heap:=s.heap.update l (Obj.mapSeq f),toks:=t' }:=by
 have q:=PySem.IsL.update e f
 rw [hf] at q
 refine I.write (x:=l) (e:=l) (by rw [hH];exact trivial) (.inl rfl) (fun b' u hb hu=>(Heap.get?_update_other s.heap (Obj.mapSeq f) (Ne.symm hb)).trans hu) ⟨_,q⟩ ?_
 exact⟨hz,its',_,hv,q⟩
theorem Inv.lnew {its:List Value} {t':Nat} (I:Inv X pins σ H s) (hv:Vals ys its) (hz:ys.length≤sizeLine) :
  Inv X pins σ (upd H s.heap.objs.size (.lst ys)) { s with heap:=s.heap.push { cls:=.type "list",data:=.seq its.toArray },toks:=t' } :=
 I.laid (fun _ _ q=>uE _ q) (Nat.le_refl _) ⟨hz,its,0,hv,uW _ rfl⟩
theorem Inv.fresh (I:Inv X pins σ H s):H s.heap.objs.size=none:=I.hok.fresh (Nat.le_refl _)
theorem Inv.lstM (I:Inv X pins σ H s) (hH:H l=some (.lst xs)):xs.length≤sizeLine∧∃ (its:List Value) (n:Nat),Vals xs its∧xs.length=its.length∧s.heap.get? l=some { cls:=.type "list",data:=.seq its.toArray n }:=by
 obtain ⟨z,its,n,r,e⟩:=I.hok l _ hH
 exact⟨z,its,n,r,r.length,e⟩
theorem mE {n:Nat} (h:n≤sizeLine):Builtin.List.listTooLong n=false:=by
 unfold Builtin.List.listTooLong
 exact decide_eq_false (by omega)
end
section
variable {X:Cx}
def pw:V→List V→Hp→VK→Prop:=fun x vs H Q=>∃ l xs y,x=.ref l∧vs=[y]∧H l=some (.lst xs)∧xs.length < sizeLine∧Q .non (upd H l (.lst (xs++[y])))
theorem gA:MtM X "list.append" pw:=by
 intro pins s σ H x vs v us Q I rx rv h
 obtain ⟨l,xs,y,rfl,rfl,hH,hz,q⟩:=h
 cases rx
 obtain ⟨u,rfl,ru⟩:=rv.one
 obtain ⟨z,its,n,r,hl,e⟩:=I.lstM hH
 refine call_meets F.slot_list_append ⟨_,e,rfl⟩ F.entry_list_append (F.args_list_append_2 _ _) (PySem.list_append l its.toArray n u (by rw [uT];omega)) ⟨e,?_⟩
 refine⟨.non,_,I.lset (its':=its++[u]) hH e (by simp) (r.append (.cons ru .nil)) ?_,rfl,q⟩
 rw [uK,List.length_singleton]
 omega
def qD:V→List V→Hp→VK→Prop:=fun x vs H Q=>∃ l b xs zs,x=.ref l∧vs=[.ref b]∧H l=some (.lst xs)∧H b=some (.lst zs)∧xs.length + zs.length≤sizeLine∧Q .non (upd H l (.lst (xs++zs)))
theorem mt_extend:MtM X "list.extend" qD:=by
 intro pins s σ H x vs v us Q I rx rv h
 obtain ⟨l,b,xs,zs,rfl,rfl,hH,hB,hz,q⟩:=h
 cases rx
 obtain ⟨u,rfl,ru⟩:=rv.one
 cases ru
 obtain ⟨z,its,n,r,hl,e⟩:=I.lstM hH
 obtain ⟨z2,its2,n2,r2,hl2,e2⟩:=I.lstM hB
 have hsz:its.toArray.size + its2.toArray.size≤sizeLine:=by rw [uT,uT];omega
 have hlong:¬ (!its.toArray.isEmpty && Builtin.List.listTooLong (its.toArray.size + its2.toArray.size))=true:=by
  rw [mE hsz,Bool.and_false]
  exact Bool.false_ne_true
 refine call_meets F.slot_list_extend ⟨_,e,rfl⟩ F.entry_list_extend (F.args_list_extend_2 _ _)
  (AutoSeq1.list_extend_list_list_0 l its.toArray n b its2.toArray n2 hlong (by rw [uT];omega) (by omega)) ⟨e,e2,?_⟩
 refine⟨.non,_,I.lset (its':=its++its2) hH e (by simp) (r.append r2) ?_,rfl,q⟩
 rw [uK]
 omega
def rPop:V→List V→Hp→VK→Prop:=fun x vs H Q=>∃ l xs y,x=.ref l∧vs=[]∧H l=some (.lst xs)∧xs[xs.length - 1]?=some y∧Q y (upd H l (.lst xs.dropLast))
theorem rj:MtM X "list.pop" rPop:=by
 intro pins s σ H x vs v us Q I rx rv h
 obtain ⟨l,xs,y,rfl,rfl,hH,hy,q⟩:=h
 cases rx
 have hus:=rv.zero
 subst hus
 obtain ⟨z,its,n,r,hl,e⟩:=I.lstM hH
 obtain ⟨u,hu,ru⟩:=r.get hy
 have hy':its.toArray[its.toArray.size - 1]?=some u:=by
  show its.toArray[its.length - 1]?=some u
  rw [← Array.getElem?_toList,← hl]
  exact hu
 refine call_meets F.slot_list_pop ⟨_,e,rfl⟩ F.entry_list_pop (F.args_list_pop_1 _) (MeetsSeq.list_pop_last l its.toArray n u hy' (by rw [uT];omega)) ⟨e,?_⟩
 refine⟨y,_,I.lset (its':=its.dropLast) hH e ?_ r.dropLast ?_,ru,q⟩
 ·show its.toArray.eraseIdxIfInBounds (its.toArray.size - 1)=its.dropLast.toArray
  rw [uT,List.eraseIdxIfInBounds_toArray,ju]
 ·rw [List.length_dropLast]
  omega
def jd:V→List V→Hp→VK→Prop:=fun x vs H Q=>∃ l xs,x=.ref l∧vs=[]∧H l=some (.lst xs)∧Q .non (upd H l (.lst []))
theorem jj:MtM X "list.clear" jd:=by
 intro pins s σ H x vs v us Q I rx rv h
 obtain ⟨l,xs,rfl,rfl,hH,q⟩:=h
 cases rx
 have hus:=rv.zero
 subst hus
 obtain ⟨z,its,n,r,hl,e⟩:=I.lstM hH
 refine call_meets F.slot_list_clear ⟨_,e,rfl⟩ F.entry_list_clear (F.args_list_clear_1 _) (AutoSeq1.list_clear_list_0 l its.toArray n (by rw [uT];omega)) ⟨e,?_⟩
 exact⟨.non,_,I.lset (its':=[]) (ys:=[]) hH e rfl .nil (Nat.zero_le _),rfl,q⟩
def rCat:R2:=fun x y H Q=>∃ l b xs zs,x=.ref l∧y=.ref b∧H l=some (.lst xs)∧H b=some (.lst zs)∧xs.length + zs.length≤sizeLine∧∀ p,H p=none→Q (.ref p) (upd H p (.lst (xs++zs)))
theorem rV:OpR X (binaryOp .Add) rCat:=by
 intro pins s σ H x y v u Q I rx ry h
 obtain ⟨l,b,xs,zs,rfl,rfl,hH,hB,hz,q⟩:=h
 cases rx
 cases ry
 obtain ⟨z,its,n,r,hl,e⟩:=I.lstM hH
 obtain ⟨z2,its2,n2,r2,hl2,e2⟩:=I.lstM hB
 refine PySem.P.add_list e e2 ?_ (by rw [uT,uT];omega)
 have ea:its.toArray++its2.toArray=(its++its2).toArray:=by simp
 rw [ea]
 exact⟨.ref _,_,I.lnew (t':=s.toks) (r.append r2) (by rw [uK];omega),rfl,q _ I.fresh⟩
end
section
variable {prog:Program} {w:World} {A:Around} {E:Value→Shared→Prop} {s:Shared}
set_option maxRecDepth 100000 in
end
section
variable {X:Cx}
end
end L2
namespace L2
open PySem PySem.Spec PyProof.Rows
section
variable {κ:Type} [DecidableEq κ]
def valV (kvs:List (κ×V)) (k:κ):Option V:=(kvs.find? fun kv=>decide (kv.1=k)).map (·.2)
def putK (kvs:List (κ×V)) (k:κ) (v:V):List (κ×V) :=
 if (kvs.any fun kv=>decide (kv.1=k))=true then kvs.map (fun kv=>if kv.1=k then (kv.1,v) else kv) else kvs++[(k,v)]
def sX (kvs:List (κ×V)) (k:κ):List (κ×V):=kvs.filter fun kv=>decide (kv.1≠k)
theorem fK {p:κ×V} {r:List (κ×V)} {k:κ} (e:p.1=k):valV (p :: r) k=some p.2:=by simp [valV,List.find?_cons,e]
theorem fD {p:κ×V} {r:List (κ×V)} {k:κ} (e:¬ p.1=k):valV (p :: r) k=valV r k:=by simp [valV,List.find?_cons,e]
theorem RelO.isSome_eq {o:Option V} {u:Option Value} (r:RelO o u):o.isSome=u.isSome:=by
 cases o with
 | none=>cases u with
  | none=>rfl
  | some _=>exact (show False from r).elim
 | some _=>cases u with
  | none=>exact (show False from r).elim
  | some _=>rfl
theorem RelO.getD {o:Option V} {u:Option Value} {d:V} {d':Value} (r:RelO o u) (rd:RelV d d'):RelV (o.getD d) (u.getD d'):=by
 cases o with
 | none=>cases u with
  | none=>exact rd
  | some _=>exact (show False from r).elim
 | some _=>cases u with
  | none=>exact (show False from r).elim
  | some _=>exact r
theorem KV.val {kvs:List (κ×V)} {vs:List (κ×Value)} (r:KV kvs vs) (k:κ):RelO (valV kvs k) (valueAt vs k):=by
 unfold KV at r
 induction r with
 | nil=>exact True.intro
 | @cons p q ps qs h t ih =>
  obtain ⟨h1,h2⟩:=h
  by_cases e:p.1=k
  ·have e':q.1=k:=h1.symm.trans e
   have b:valueAt (q :: qs) k=some q.2:=by simp [valueAt,List.find?_cons,e']
   rw [fK e,b];exact h2
  ·have e':¬ q.1=k:=fun z=>e (h1.trans z)
   have b:valueAt (q :: qs) k=valueAt qs k:=by simp [valueAt,List.find?_cons,e']
   rw [fD e,b];exact ih
theorem KV.drop {kvs:List (κ×V)} {vs:List (κ×Value)} (r:KV kvs vs) (k:κ):KV (sX kvs k) (without vs k):=by
 unfold KV at r ⊢
 unfold sX without
 induction r with
 | nil=>exact .nil
 | @cons p q ps qs h t ih =>
  obtain ⟨h1,h2⟩:=h
  rw [List.filter_cons,List.filter_cons]
  by_cases e:p.1=k
  ·have a:¬ decide (p.1≠k)=true:=by simp [e]
   have b:¬ decide (q.1≠k)=true:=by simp [h1.symm.trans e]
   rw [if_neg a,if_neg b];exact ih
  ·have e':¬ q.1=k:=fun z=>e (h1.trans z)
   have a:decide (p.1≠k)=true:=by simp [e]
   have b:decide (q.1≠k)=true:=by simp [e']
   rw [if_pos a,if_pos b];exact .cons ⟨h1,h2⟩ ih
theorem KV.length {kvs:List (κ×V)} {vs:List (κ×Value)} (r:KV kvs vs):kvs.length=vs.length:=Paired.length r
end
theorem sG {P:Program} {w:World} {k:Key} {u:Value} (r:RelV (kV k) u):(bp P w).is k u=true:=by
 cases k with
 | inl i=>obtain ⟨t,e⟩:=(show ∃ t,u=Value.int i t from r);subst e;exact gX P w i t
 | inr x=>obtain ⟨t,e⟩:=(show ∃ t,u=Value.str x t from r);subst e;exact ij P w x t
theorem gm {P:Program} {w:World}:∀ {ks:List Key} {us:List Value},Vals (ks.map kV) us→ItemsAre (bp P w) ks us
 | [],_,r=>by rw [List.map_nil] at r;cases r;exact .nil
 | k :: ks,_,r=>by
  rw [List.map_cons] at r
  cases r with
  | cons h t=>exact .cons (sG h) (gm t)
abbrev KT (H:Hp):List (List Key×V)→List (List Key×Addr×Value)→Prop:=Paired fun p q=>p.1=q.1∧H q.2.1=some (.tup (p.1.map kV))∧RelV p.2 q.2.2
theorem KT.val {H:Hp} {kvs:List (List Key×V)} {xs:List (List Key×Addr×Value)} (r:KT H kvs xs) (k:List Key):RelO (valV kvs k) ((atKey xs k).map (·.2)):=by
 induction r with
 | nil=>exact True.intro
 | @cons p q ps qs h t ih =>
  obtain ⟨h1,_,h2⟩:=h
  by_cases e:p.1=k
  ·have e':q.1=k:=h1.symm.trans e
   have b:atKey (q :: qs) k=some q.2:=by simp [atKey,List.find?_cons,e']
   rw [fK e,b];exact h2
  ·have e':¬ q.1=k:=fun z=>e (h1.trans z)
   have b:atKey (q :: qs) k=atKey qs k:=by simp [atKey,List.find?_cons,e']
   rw [fD e,b];exact ih
theorem KT.keeps {H H':Hp} {kvs:List (List Key×V)} {xs:List (List Key×Addr×Value)} (r:KT H kvs xs) (ht:∀ b ys,H b=some (.tup ys)→H' b=some (.tup ys)):KT H' kvs xs :=
 Paired.mapP r fun _ _ z=>⟨z.1,ht _ _ z.2.1,z.2.2⟩
section
variable {P:Program} {w:World} {H:Hp} {h:Heap} {a:Addr}
theorem qP {u:HO} (ok:HOk P w H h) (e:Rd H a u):bq P w H h a u:=e.ok ok
theorem kf {kvs:List (Key×V)} (ok:HOk P w H h) (e:Rd H a (.dK kvs)):kvs.length≤sizeLine∧(a == sysModules)=false∧∃ vs,KV kvs vs∧h.DictOf (bp P w) a vs :=
 show bq P w H h a (.dK kvs) from qP ok e
theorem ub {kvs:List (Key×V)} (ok:HOk P w H h) (e:H a=some (.dK kvs)):kvs.length≤sizeLine∧(a == sysModules)=false∧∃ vs,KV kvs vs∧h.DictOf (bp P w) a vs:=kf ok (.inl e)
theorem nE {ks:List Key} (ok:HOk P w H h) (e:H a=some (.tup (ks.map kV))):(tupleKind (bp P w)).is h ks a:=by
 obtain ⟨_,its,r,o,h1,h2,n,h3⟩:=(show bq P w H h a (.tup (ks.map kV)) from ok a _ e)
 exact⟨o,its.toArray,n,h1,h2,h3,by simpa using gm r⟩
theorem ul {kvs:List (List Key×V)} (ok:HOk P w H h) (e:Rd H a (.dT kvs)):kvs.length≤sizeLine∧(a == sysModules)=false ∧
  ∃ xs,KT H kvs xs∧h.DictOfH (tupleKind (bp P w)) a xs:=by
 obtain ⟨z,y,xs,r,o,es,ep,h1,h2,h3,h4,h5⟩:=(show bq P w H h a (.dT kvs) from qP ok e)
 refine⟨z,y,xs,r,o,es,ep,h1,h2,h3,h4,fun x hx=>?_,h5⟩
 have all:∀ {l:List (List Key×V)} {m:List (List Key×Addr×Value)},KT H l m→∀ x∈m,(tupleKind (bp P w)).is h x.1 x.2.1:=by
  intro l m q
  induction q with
  | nil=>intro x hx;exact nomatch hx
  | @cons p q ps qs hq t ih =>
   intro x hx
   rcases uG.mp hx with e | hx
   ·subst e
    exact nE ok (by rw [← hq.1];exact hq.2.1)
   ·exact ih x hx
 exact all r x hx
end
def DGet (H:Hp) (a:Addr) (y:V) (r:Option V):Prop :=
 (∃ kvs k,Rd H a (.dK kvs)∧y=kV k∧r=valV kvs k)∨∃ kvs k b,Rd H a (.dT kvs)∧y=.ref b∧H b=some (.tup (k.map kV))∧r=valV kvs k
def DPut (H:Hp) (a:Addr) (y v:V) (H':Hp):Prop :=
 (∃ kvs k,H a=some (.dK kvs)∧y=kV k∧kvs.length < sizeLine∧H'=upd H a (.dK (putK kvs k v))) ∨
 ∃ kvs k b,H a=some (.dT kvs)∧y=.ref b∧H b=some (.tup (k.map kV))∧kvs.length < sizeLine∧H'=upd H a (.dT (putK kvs k v))
theorem DGet.k {H:Hp} {a:Addr} {kvs:List (Key×V)} {k:Key} (e:H a=some (.dK kvs)):DGet H a (kV k) (valV kvs k):=.inl ⟨kvs,k,.inl e,rfl,rfl⟩
theorem DGet.t {H:Hp} {a b:Addr} {kvs:List (List Key×V)} {k:List Key} (e:H a=some (.dT kvs)) (eb:H b=some (.tup (k.map kV))):DGet H a (.ref b) (valV kvs k):=.inr ⟨kvs,k,b,.inl e,rfl,eb,rfl⟩
theorem DPut.t {H:Hp} {a b:Addr} {kvs:List (List Key×V)} {k:List Key} {v:V} (e:H a=some (.dT kvs)) (eb:H b=some (.tup (k.map kV))) (hl:kvs.length < sizeLine) :
  DPut H a (.ref b) v (upd H a (.dT (putK kvs k v))):=.inr ⟨kvs,k,b,e,rfl,eb,hl,rfl⟩
section
variable {X:Cx} {pins:List (Addr×Obj)} {σ:St} {H:Hp} {s:Shared} {a:Addr} {y v:V} {u r:Value} {o:Option V} {A:Around} {E:Value→Shared→Prop}
theorem d_in {Q:Value→Shared→Prop} (hu:A.units + 1 < cLine) (I:Inv X pins σ H s) (g:DGet H a y o) (ry:RelV y u) (h:∀ s',Inv X pins σ H s'→Q (.bool o.isSome) s') :
  wpAny (model X.prog X.w) A (compareOp .In u (.ref a)) Q E s:=by
 rcases g with ⟨kvs,k,e,ey,l⟩ | ⟨kvs,k,b,e,ey,eb,l⟩
 ·subst ey
  obtain ⟨z,hd,vs,rel,dd⟩:=kf I.hok e
  refine wpAny_in_of (sG ry) hd dd.mapOf ?_
  rw [← (rel.val k).isSome_eq,← l]
  exact h _ (I.tok _)
 ·subst ey
  cases (show u=Value.ref b from ry)
  obtain ⟨z,hd,xs,rel,dd⟩:=ul I.hok e
  refine wpAny_in_heap (tupleKind_room_in1 hu) (nE I.hok eb) hd dd ?_
  have q:=(rel.val k).isSome_eq
  rw [Option.isSome_map] at q
  rw [← q,← l]
  exact h _ (I.tok _)
end
section
variable {X:Cx} {pins:List (Addr×Obj)} {σ:St} {H:Hp} {s:Shared} {a:Addr} {kvs:List (Key×V)} {k:Key} {u:Value} {A:Around} {E:Value→Shared→Prop}
end
def NoSl (i:Expr):Prop:=∀ ov iv,subscripted i false ov iv=operate [ov,iv] (getItem ov iv)
section
variable {X:Cx} {o i e value:Expr} {pos pos' tpos:Pos} {td ty tv:TE}
end
section
variable {X:Cx} {pos:Pos}
end
section
variable {X:Cx} {pins:List (Addr×Obj)} {σ:St} {H:Hp} {s:Shared} {a:Addr} {y d:V} {u r:Value} {o:Option V} {A:Around} {E:Value→Shared→Prop}
end
section
variable {X:Cx} {o e f:Expr} {apos cpos:Pos} {td ty tx:TE}
end
section
variable {X:Cx} {pins:List (Addr×Obj)} {σ:St} {H:Hp} {s:Shared} {a:Addr} {kvs:List (Key×V)} {A:Around} {E:Value→Shared→Prop}
end
section
variable {X:Cx} {pins:List (Addr×Obj)} {σ:St} {H:Hp} {s:Shared} {a:Addr} {y:V} {u:Value} {A:Around} {E:Value→Shared→Prop}
end
end L2
namespace Att
open PySem PySem.W PySem.Calls PyProof.Rows
theorem d7 {P:Params} {h:Heap}:∀ (ns:List Int) (vs:List Value),WellAll P h vs (ns.map WData.int)→IntsAre vs ns:=by
 intro ns
 induction ns with
 | nil =>
  intro vs w
  rw [List.map_nil] at w
  cases w
  exact .nil
 | cons n ns ih =>
  intro vs w
  rw [List.map_cons] at w
  cases w with
  | cons a b =>
   cases a
   exact .cons _ _ (ih _ b)
theorem script_of {l:OpenLaw} {n:Nat} (hn:l.most=some n) {P:Params} {h:Heap} {args:List WData} {vals:List Value}
  (hpre:l.row.toRowW.claim.pre args=true) (hwl:WellAll P h vals args) :
  ∃ a vs ns,vals=[Value.ref a]∧args=[WData.list (ns.map WData.int)]∧h.get? a=some { cls:=.type "list",data:=.seq vs.toArray }∧IntsAre vs ns∧ns.length≤n:=by
 have hsh:WShape.hasAll [] args [.list .int]=true:=(pre_splitW hpre).1
 have hc:l.pre.holds [] { args:=args }=true:=(pre_splitW hpre).2
 obtain ⟨d,r,rfl,h1,h2⟩:=hasAllW_cons hsh
 obtain rfl:=hasAllW_nil h2
 obtain ⟨xs,rfl,h3⟩:=hasW_list h1
 obtain ⟨ns,rfl⟩:=items_int h3
 have hlen:ns.length≤n:=by
  unfold OpenLaw.pre at hc
  have h4:(WTm.not (.lt (.lit (.int (n:Int))) (.len (.arg 0)))).holds [] { args:=[.list (ns.map .int)] }=true:=by
   have h4:=(holds_andW hc).1
   rw [hn] at h4
   exact h4
  have h5:=condW_of h4 (w_not (w_lt w_lit (w_len_list (w_arg rfl))))
  rw [uA] at h5
  refine Nat.le_of_not_lt fun q=>?_
  have q':(n:Int) < ((ns.length:Nat):Int):=by omega
  first
   | (rw [decide_eq_true q'] at h5;exact absurd h5 (by decide))
   | (simp at h5;omega)
 cases hwl with
 | cons w1 w2 =>
  cases w2
  cases w1 with
  | list ho hall=>exact⟨_,_,ns,rfl,rfl,ho,d7 ns _ hall,hlen⟩
theorem post_true (l:OpenLaw) (args:List WData):l.row.toRowW.claim.post args (.bool true) args=true :=
 postW_of (r:=l.row.toRowW) (X:=(true == true))
  (show WShape.has [] (.bool true) .bool=true by first | rfl | decide | simp [WShape.has,WShape.arms,WShape.armsAll])
  (show (WTm.eq .res (.lit (.bool true))).value [] { args:=args,res:=some (.bool true),after:=args }=some (.bool (true == true)) from w_eq_bool (w_res rfl) w_lit) rfl
section
variable {prog:Program} {w:World} {A:Around} {E:Value→Shared→Prop} {s:Shared} {K:Frag}
end
end Att
namespace L2
open PySem PySem.Spec PyProof.Rows
theorem gK:∀ {vs:List Value} {ns:List Int},IntsAre vs ns→Vals (ns.map V.int) vs
 | _,_,.nil=>.nil
 | _,_,.cons n t h=>.cons ⟨t,rfl⟩ (gK h)
def Only (H:Hp):Prop:=∀ b,H b=none∨∃ o xs,H b=some (.frz o (.lst xs))
theorem me {P:Program} {w:World} {K:PySem.W.Frag} {mg mb:Str→Option Value} {CX:CXT} {k:Nat} {fa a:Addr} {fd:FuncData} {x:Str} {sp:Sp} {s₁:Shared} {vs:List Value} {ns:List Int}
  (KX:K.In s₁.heap) (hns:s₁.heap.Ns mainGlobals mg) (hb:s₁.heap.Ns builtinsNs mb) (hbb:∀ x:Str,x≠"__name__"→mb x=bootBuiltins x) (hlim:s₁.heap.NoLimit) (hg:s₁.gens=#[])
  (ha:s₁.heap.get? a=some { cls:=.type "list",data:=.seq vs.toArray }) (hi:IntsAre vs ns) (hl:ns.length≤sizeLine) (hr:Room k callerA)
  (F:∀ base:Heap,K.In base→base.Ns mainGlobals mg→FnOk P w K mg base CX k fa fd [x] sp) (hbind:∀ (s:Shared) (u:Value),BindsTo s fd ⟨[u],[]⟩ [(x,u)])
  (hsp:∀ H:Hp,Only H→SqL K H a (ns.map V.int)→sp [.ref a] H (fun v _=>v=.bl true) fun _ _ _=>False)
  (hCX:∀ H e s',CX [] H s₁ (fun _ _ _=>False) e s'→False) :
  codeAny (model P w) callerA (.call (.ref fa) ⟨[.ref a],[]⟩) (fun r s'=>r=.ok (.ret (.bool true))∧OldK s₁.heap s'.heap∧s'.os=s₁.os∧AllBare s'.gens) s₁:=by
 have rv:=gK hi
 have lenV:=hi.length
 have core:∀ H:Hp,Only H→SqL K H a (ns.map V.int)→HOk P w H s₁.heap→(∀ b,H b≠none→b=a)→(H a≠none→K.lookup a=none) →
   codeAny (model P w) callerA (.call (.ref fa) ⟨[.ref a],[]⟩) (fun r s'=>r=.ok (.ret (.bool true))∧OldK s₁.heap s'.heap∧s'.os=s₁.os∧AllBare s'.gens) s₁:=by
  intro H hO hS hok hA hK
  have base_of:∀ {b:Addr} {o:Obj},s₁.heap.get? b=some o→H b=none→(hidT s₁.heap H).get? b=some o:=fun e n=>nh e n
  have noA:∀ {b:Addr} {o:Obj} {es:Array DictEntry} {ep:Nat},s₁.heap.get? b=some o→o.data=.dict es ep→H b=none:=fun {b o es ep} e d=>by
   cases q:H b with
   | none=>rfl
   | some u =>
    have e':b=a:=hA b (by rw [q];simp)
    subst e'
    rw [ha] at e;cases e
    have d':Data.seq vs.toArray _=Data.dict es ep:=d
    cases d'
  have nsK:∀ {b:Addr} {m:Str→Option Value},s₁.heap.Ns b m→(hidT s₁.heap H).Ns b m:=fun {b m} ⟨o,es,ep,e,d,r⟩=>⟨o,es,ep,base_of e (noA e d),d,r⟩
  have hKb:K.In (hidT s₁.heap H):=fun b o e=>base_of (KX b o e) (by
   cases q:H b with
   | none=>rfl
   | some u =>
    have e':b=a:=hA b (by rw [q];simp)
    subst e'
    rw [hK (by rw [q];simp)] at e;cases e)
  have hM:Mod K mg (hidT s₁.heap H):=⟨hKb,nsK hns,⟨mb,nsK hb,hbb⟩,let ⟨mc,h1,h2⟩:=hlim;⟨mc,nsK h1,h2⟩⟩
  have e0:Env0 P w K mg (hidT s₁.heap H) callerA [] s₁ H:=⟨rfl,hM,fun b o e=>pX e,Nat.le_of_eq (l6 _ _),trivial,fun b hb=>absurd (show b∈([]:List Addr) from hb) (by simp),hok,.of_eq hg⟩
  refine codeAny_mono ((F _ hKb (nsK hns)).run callerA [] s₁ H ⟨[.ref a],[]⟩ [.ref a] [.ref a] _ _ hr e0 (hbind s₁ (.ref a)) (.cons rfl .nil) (hsp H hO hS)) fun r s' h=>?_
  cases r with
  | error e=>exact (hCX H e s' h).elim
  | ok fl =>
   cases fl with
   | next=>exact False.elim h
   | brk=>exact False.elim h
   | cont=>exact False.elim h
   | ret u =>
    obtain ⟨v,H',os,bare,un,hok',r',q⟩:=h
    have q':v=.bl true:=q
    subst q'
    obtain rfl:u=Value.bool true:=r'
    refine⟨rfl,OldK.of_keep fun b o e=>?_,os,bare⟩
    cases q:H b with
    | none=>exact un.keep b o e q (by intro z;exact absurd (show b∈([]:List Addr) from z) (by simp)) (by simp)
    | some u =>
     rcases hO b with z | ⟨ob,xs,z⟩
     ·rw [q] at z;cases z
     ·have z2:=un.frzs b ob _ z
      obtain ⟨e1,_⟩:=hok b _ z
      obtain ⟨e2,_⟩:=hok' b _ z2
      rw [e] at e1;cases e1
      exact e2
 cases hk:K.lookup a with
 | some o =>
  have e:=KX a o hk
  rw [ha] at e
  cases e
  refine core (fun _=>none) (fun _=>.inl rfl) (.inr ⟨_,vs.toArray,_,hk,rfl,rfl,rfl,by rw [uT,lenV];exact hl,by simpa using rv⟩) (fun b u z=>by have z':(none:Option HO)=some u:=z;cases z') (fun b z=>absurd rfl z) fun z=>absurd rfl z
 | none =>
  refine core (fun b=>if b=a then some (.frz { cls:=.type "list",data:=.seq vs.toArray } (.lst (ns.map V.int))) else none) (fun b=>?_) (.inl (.inr ⟨{ cls:=.type "list",data:=.seq vs.toArray },if_pos rfl⟩)) (fun b u z=>?_) (fun b z=>?_) fun _=>hk
  ·by_cases hb:b=a
   ·exact .inr ⟨_,_,if_pos hb⟩
   ·exact .inl (if_neg hb)
  ·by_cases hb:b=a
   ·have z':=(if_pos hb).symm.trans z
    cases z'
    subst hb
    exact⟨ha,by rw [uA];exact hl,vs,_,rv,ha⟩
   ·have z':=(if_neg hb).symm.trans z
    cases z'
  ·by_cases hb:b=a
   ·exact hb
   ·exact absurd (if_neg hb) z
end L2
namespace L2
open PySem PySem.Spec PyProof.Rows
end L2
namespace L2
open PySem PySem.Spec PyProof.Rows
abbrev CX0:CXT:=fun _ _ _ _ _ _=>False
abbrev E0:XK:=fun _ _ _=>False
theorem pM {X:Cx}:je CX0 X E0:=fun _ _ _ _ _ _ _ h=>h.elim
structure Fun (K:PySem.W.Frag) (x qual:Str) (st:Stmt) (f:Addr) (fd:FuncData):Prop where
 ex:∃ (oc:Value) (od:Option Addr) (kV doc pm:Value) (an:Option Addr) (cdv ct:Value) (osl:Array (Option Value)),
  fd=PySem.W.fnOf x qual (ba st) (aM st) (ah st) .none kV doc pm an cdv ct∧K.lookup f=some ⟨oc,od,.func fd,osl⟩∧PySem.W.codeIn K cdv qual=true
 kp:PySem.W.keepIn K (.ref f)=true
section
variable {P:Program} {w:World} {K:PySem.W.Frag} {mg:Str→Option Value} {base:Heap}
theorem Fun.ok {x qual:Str} {st:Stmt} {f:Addr} {fd:FuncData} {N ps:List Str} {k:Nat} {sp:Sp} (F:Fun K x qual st f fd) (S:ar N ps (ah st)) (len:∀ vs H Q E,sp vs H Q E→vs.length=ps.length)
    (hbody:∀ (cdv:Value) (A:Around) (outer:List Env) (s:Shared) (H:Hp) (vs:List V) (Q:VK) (E:XK),Room k (A.deeper (envOfC qual (ah st) s.heap.objs.size f cdv))→sp vs H Q E →
      ∃ t,PSs (cxOf CX0 P w K mg base N qual (ah st) f cdv A outer s H E).nox (aM st) t∧t { nx:=fun _ H'=>Q .non H',rt:=Q } (start N vs) H):FnOk P w K mg base CX0 (k + 1) f fd ps sp:=by
  obtain ⟨oc,od,kV,doc,pm,an,cdv,ct,osl,rfl,lk,hcd⟩:=F.ex
  refine rq lk hcd S len fun A outer s H vs Q E hr hsp=>?_
  obtain ⟨t,h,q⟩:=hbody cdv A outer s H vs Q E hr hsp
  exact⟨t,h.nox,q⟩
theorem Fun.binds {x qual:Str} {st:Stmt} {f:Addr} {fd:FuncData} {ps:List Str} (F:Fun K x qual st f fd)
  (h:∀ (kV doc pm:Value) (an:Option Addr) (cdv ct:Value) (us:List Value),us.length=ps.length→bindArgs (PySem.W.fnOf x qual (ba st) (aM st) (ah st) .none kV doc pm an cdv ct) ⟨us,[]⟩=pure (ps.zip us)):c8 K fd ps []:=by
 obtain ⟨oc,od,kV,doc,pm,an,cdv,ct,osl,rfl,lk,hcd⟩:=F.ex
 exact .all (h kV doc pm an cdv ct)
theorem nL {x qual:Str} {st:Stmt} {f:Addr} {oc:Value} {od an:Option Addr} {osl:Array (Option Value)} {kV doc pm cdv ct:Value} (l:K.lookup f=some ⟨oc,od,.func (PySem.W.fnOf x qual (ba st) (aM st) (ah st) .none kV doc pm an cdv ct),osl⟩)
  (c:PySem.W.codeIn K cdv qual=true) (k:PySem.W.keepIn K (.ref f)=true):Fun K x qual st f (PySem.W.fnOf x qual (ba st) (aM st) (ah st) .none kV doc pm an cdv ct):=⟨⟨oc,od,kV,doc,pm,an,cdv,ct,osl,rfl,l,c⟩,k⟩
end
section
variable {X:Cx}
end
theorem ite2 {c A B:Prop} [Decidable c] (h1:c→A) (h2:¬ c→B):if c then A else B:=by
 by_cases h:c
 ·rw [if_pos h]
  exact h1 h
 ·rw [if_neg h]
  exact h2 h
def Same (H H':Hp):Prop:=∀ b o,H b=some o→H' b=some o
theorem Same.refl (H:Hp):Same H H:=fun _ _ h=>h
theorem Same.trans {H H1 H2:Hp} (a:Same H H1) (b:Same H1 H2):Same H H2:=fun c o h=>b c o (a c o h)
section
variable {κ:Type} [DecidableEq κ]
end
end L2
namespace DL
open PySem L2
inductive D where
 | non | bl (b:Bool) | int (i:Int) | str (x:Str)
 | tup (xs:List D) | lst (xs:List D) | fz (xs:List D) | dct (ks:List Str) (vs:List D) | fd (ks:List Str) (vs:List D) | fo (o:Obj) (ks:List Str) (vs:List D) | exn (c f:Str) (x:D)
mutual
def D.im:D→Bool
 | .tup xs=>D.ims xs
 | .lst _=>false
 | .fz xs=>D.ims xs
 | .dct _ _=>false
 | .fd _ xs=>D.ims xs
 | .fo _ _ xs=>D.ims xs
 | .exn _ _ _=>false
 | .non=>true
 | .bl _=>true
 | .int _=>true
 | .str _=>true
def D.ims:List D→Bool
 | []=>true
 | x :: r=>D.im x && D.ims r
end
abbrev xob (C:Addr) (dx:Option Addr) (a t:Value):Obj:={ cls:=.ref C,dict:=dx,data:=.fields #[a,t,.none,.none,.bool false,.none] }
def XAt (e C dx:Addr):HO:=.ext fun h=>∃ a t,h.get? e=some (xob C (some dx) a t)
def XNew (e C dx:Addr):HO:=.ext fun h=>∃ a,h.get? e=some (xob C (some dx) a .none)
structure XRep (K:PySem.W.Frag) (M:Addr→Prop) (H:Hp) (c f:Str) (v y:V):Prop where
 ex:∃ e C dx,v=.ref e∧¬ M e∧¬ M dx∧(H e=some (XAt e C dx)∨H e=some (XNew e C dx))∧H dx=some (.xd [(f,y)])∧PySem.W.nsIn K mainGlobals c=some (some (.ref C))
def eU (ks:List Str) (vs:List V):List (Key×V):=(ks.map Sum.inr).zip vs
def H0:Hp:=fun _=>none
def FzAt (K:PySem.W.Frag) (H:Hp) (a:Addr) (vs:List V):Prop:=(∃ o,H a=some (.frz o (.lst vs)))∨SqL K H0 a vs
mutual
def Rep (K:PySem.W.Frag) (M:Addr→Prop) (H:Hp):D→V→Prop
 | .non,v=>v=.non
 | .bl b,v=>v=.bl b
 | .int i,v=>v=.int i
 | .str x,v=>v=.str x
 | .tup ds,v=>∃ a vs,v=.ref a∧SqT K H a vs∧Reps K M H ds vs
 | .lst ds,v=>∃ a vs,v=.ref a∧¬ M a∧H a=some (.lst vs)∧Reps K M H ds vs
 | .fz ds,v=>∃ a vs,v=.ref a∧FzAt K H a vs∧Reps K M H ds vs
 | .dct ks ds,v=>∃ a vs,v=.ref a∧¬ M a∧H a=some (.dK (eU ks vs))∧ks.length=ds.length∧Reps K M H ds vs
 | .fd ks ds,v=>∃ a vs o,v=.ref a∧H a=some (.frz o (.dK (eU ks vs)))∧ks.length=ds.length∧Reps K M H ds vs
 | .fo o ks ds,v=>∃ a vs,v=.ref a∧H a=some (.frz o (.dK (eU ks vs)))∧ks.length=ds.length∧Reps K M H ds vs
 | .exn c f d,v=>∃ y,XRep K M H c f v y∧Rep K M H d y
def Reps (K:PySem.W.Frag) (M:Addr→Prop) (H:Hp):List D→List V→Prop
 | [],vs=>vs=[]
 | d :: ds,vs=>∃ v r,vs=v :: r∧Rep K M H d v∧Reps K M H ds r
end
structure Kp (M:Addr→Prop) (H H':Hp):Prop where
 un:∀ b o,H b=some o→¬ M b→H' b=some o
 tu:∀ b xs,H b=some (.tup xs)→H' b=some (.tup xs)
 fr:∀ b o u,H b=some (.frz o u)→H' b=some (.frz o u)
theorem Kp.of_same {M:Addr→Prop} {H H':Hp} (h:Same H H'):Kp M H H':=⟨fun b o e _=>h b o e,fun b xs e=>h b _ e,fun b o u e=>h b _ e⟩
theorem Kp.refl {M:Addr→Prop} {H:Hp}:Kp M H H:=Kp.of_same (Same.refl H)
section
variable {K:PySem.W.Frag} {M M':Addr→Prop} {H H':Hp}
theorem SqT.kp {a:Addr} {vs:List V} (k:Kp M H H') (h:SqT K H a vs):SqT K H' a vs:=by
 rcases h with (h | ⟨o,h⟩) | h
 ·exact .inl (.inl (k.tu _ _ h))
 ·exact .inl (.inr ⟨o,k.fr _ _ _ h⟩)
 ·exact .inr h
theorem FzAt.kp {a:Addr} {vs:List V} (k:Kp M H H') (h:FzAt K H a vs):FzAt K H' a vs:=by
 rcases h with ⟨o,h⟩ | h
 ·exact .inl ⟨o,k.fr _ _ _ h⟩
 ·exact .inr h
theorem FzAt.seq {a:Addr} {vs:List V} (h:FzAt K H a vs):SqL K H a vs:=by
 rcases h with ⟨o,h⟩ | (h | ⟨o,h⟩) | h
 ·exact .inl (.inr ⟨o,h⟩)
 ·cases h
 ·cases h
 ·exact .inr h
theorem XRep.kp {c f:Str} {v y:V} (k:Kp M H H') (h:XRep K M H c f v y):XRep K M H' c f v y:=by
 obtain ⟨e,C,dx,rfl,n1,n2,h1,h2,h3⟩:=h.ex
 exact⟨⟨e,C,dx,rfl,n1,n2,h1.imp (fun z=>k.un _ _ z n1) (fun z=>k.un _ _ z n1),k.un _ _ h2 n2,h3⟩⟩
theorem XRep.more {c f:Str} {v y:V} (hM:∀ b,M' b→M b∨H b=none) (h:XRep K M H c f v y):XRep K M' H c f v y:=by
 obtain ⟨e,C,dx,rfl,n1,n2,h1,h2,h3⟩:=h.ex
 refine⟨⟨e,C,dx,rfl,fun z=>(hM _ z).elim n1 fun q=>?_,fun z=>(hM _ z).elim n2 (fun q=>by rw [h2] at q;cases q),h1,h2,h3⟩⟩
 rcases h1 with h1 | h1<;>(rw [h1] at q;cases q)
mutual
theorem Rep.kp (k:Kp M H H'):∀ (d:D) (v:V),Rep K M H d v→Rep K M H' d v
 | .non,v,h=>by unfold Rep at h ⊢;exact h
 | .bl b,v,h=>by unfold Rep at h ⊢;exact h
 | .int i,v,h=>by unfold Rep at h ⊢;exact h
 | .str x,v,h=>by unfold Rep at h ⊢;exact h
 | .tup ds,v,h=>by
  unfold Rep at h ⊢
  obtain ⟨a,vs,e,q,r⟩:=h
  exact⟨a,vs,e,SqT.kp k q,Reps.kp k ds vs r⟩
 | .lst ds,v,h=>by
  unfold Rep at h ⊢
  obtain ⟨a,vs,e,n,q,r⟩:=h
  exact⟨a,vs,e,n,k.un _ _ q n,Reps.kp k ds vs r⟩
 | .fz ds,v,h=>by
  unfold Rep at h ⊢
  obtain ⟨a,vs,e,q,r⟩:=h
  exact⟨a,vs,e,q.kp k,Reps.kp k ds vs r⟩
 | .dct ks ds,v,h=>by
  unfold Rep at h ⊢
  obtain ⟨a,vs,e,n,q,l,r⟩:=h
  exact⟨a,vs,e,n,k.un _ _ q n,l,Reps.kp k ds vs r⟩
 | .fd ks ds,v,h=>by
  unfold Rep at h ⊢
  obtain ⟨a,vs,o,e,q,l,r⟩:=h
  exact⟨a,vs,o,e,k.fr _ _ _ q,l,Reps.kp k ds vs r⟩
 | .fo o ks ds,v,h=>by
  unfold Rep at h ⊢
  obtain ⟨a,vs,e,q,l,r⟩:=h
  exact⟨a,vs,e,k.fr _ _ _ q,l,Reps.kp k ds vs r⟩
 | .exn c f d,v,h=>by
  unfold Rep at h ⊢
  obtain ⟨y,q,r⟩:=h
  exact⟨y,q.kp k,Rep.kp k d y r⟩
theorem Reps.kp (k:Kp M H H'):∀ (ds:List D) (vs:List V),Reps K M H ds vs→Reps K M H' ds vs
 | [],vs,h=>by unfold Reps at h ⊢;exact h
 | d :: ds,vs,h=>by
  unfold Reps at h ⊢
  obtain ⟨v,r,e,q,s⟩:=h
  exact⟨v,r,e,Rep.kp k d v q,Reps.kp k ds r s⟩
end
mutual
theorem Rep.more (hM:∀ b,M' b→M b∨H b=none):∀ (d:D) (v:V),Rep K M H d v→Rep K M' H d v
 | .non,v,h=>by unfold Rep at h ⊢;exact h
 | .bl b,v,h=>by unfold Rep at h ⊢;exact h
 | .int i,v,h=>by unfold Rep at h ⊢;exact h
 | .str x,v,h=>by unfold Rep at h ⊢;exact h
 | .tup ds,v,h=>by
  unfold Rep at h ⊢
  obtain ⟨a,vs,e,q,r⟩:=h
  exact⟨a,vs,e,q,Reps.more hM ds vs r⟩
 | .lst ds,v,h=>by
  unfold Rep at h ⊢
  obtain ⟨a,vs,e,n,q,r⟩:=h
  exact⟨a,vs,e,fun z=>(hM _ z).elim n (fun e=>by rw [q] at e;cases e),q,Reps.more hM ds vs r⟩
 | .fz ds,v,h=>by
  unfold Rep at h ⊢
  obtain ⟨a,vs,e,q,r⟩:=h
  exact⟨a,vs,e,q,Reps.more hM ds vs r⟩
 | .dct ks ds,v,h=>by
  unfold Rep at h ⊢
  obtain ⟨a,vs,e,n,q,l,r⟩:=h
  exact⟨a,vs,e,fun z=>(hM _ z).elim n (fun e=>by rw [q] at e;cases e),q,l,Reps.more hM ds vs r⟩
 | .fd ks ds,v,h=>by
  unfold Rep at h ⊢
  obtain ⟨a,vs,o,e,q,l,r⟩:=h
  exact⟨a,vs,o,e,q,l,Reps.more hM ds vs r⟩
 | .fo o ks ds,v,h=>by
  unfold Rep at h ⊢
  obtain ⟨a,vs,e,q,l,r⟩:=h
  exact⟨a,vs,e,q,l,Reps.more hM ds vs r⟩
 | .exn c f d,v,h=>by
  unfold Rep at h ⊢
  obtain ⟨y,q,r⟩:=h
  exact⟨y,q.more hM,Rep.more hM d y r⟩
theorem Reps.more (hM:∀ b,M' b→M b∨H b=none):∀ (ds:List D) (vs:List V),Reps K M H ds vs→Reps K M' H ds vs
 | [],vs,h=>by unfold Reps at h ⊢;exact h
 | d :: ds,vs,h=>by
  unfold Reps at h ⊢
  obtain ⟨v,r,e,q,s⟩:=h
  exact⟨v,r,e,Rep.more hM d v q,Reps.more hM ds r s⟩
end
mutual
theorem Rep.im:∀ (d:D) (v:V),d.im=true→Rep K M H d v→Rep K M' H d v
 | .non,v,_,h=>by unfold Rep at h ⊢;exact h
 | .bl b,v,_,h=>by unfold Rep at h ⊢;exact h
 | .int i,v,_,h=>by unfold Rep at h ⊢;exact h
 | .str x,v,_,h=>by unfold Rep at h ⊢;exact h
 | .tup ds,v,i,h=>by
  unfold Rep at h ⊢
  obtain ⟨a,vs,e,q,r⟩:=h
  unfold D.im at i
  exact⟨a,vs,e,q,Reps.im ds vs i r⟩
 | .lst ds,v,i,h=>by unfold D.im at i;cases i
 | .fz ds,v,i,h=>by
  unfold Rep at h ⊢
  obtain ⟨a,vs,e,q,r⟩:=h
  unfold D.im at i
  exact⟨a,vs,e,q,Reps.im ds vs i r⟩
 | .dct ks ds,v,i,h=>by unfold D.im at i;cases i
 | .fd ks ds,v,i,h=>by
  unfold Rep at h ⊢
  obtain ⟨a,vs,o,e,q,l,r⟩:=h
  unfold D.im at i
  exact⟨a,vs,o,e,q,l,Reps.im ds vs i r⟩
 | .fo o ks ds,v,i,h=>by
  unfold Rep at h ⊢
  obtain ⟨a,vs,e,q,l,r⟩:=h
  unfold D.im at i
  exact⟨a,vs,e,q,l,Reps.im ds vs i r⟩
 | .exn c f d,v,i,h=>by unfold D.im at i;cases i
theorem Reps.im:∀ (ds:List D) (vs:List V),D.ims ds=true→Reps K M H ds vs→Reps K M' H ds vs
 | [],vs,_,h=>by unfold Reps at h ⊢;exact h
 | d :: ds,vs,i,h=>by
  unfold Reps at h ⊢
  obtain ⟨v,r,e,q,s⟩:=h
  unfold D.ims at i
  obtain ⟨i1,i2⟩:=uY.mp i
  exact⟨v,r,e,Rep.im d v i1 q,Reps.im ds r i2 s⟩
end
theorem Reps.length:∀ (ds:List D) (vs:List V),Reps K M H ds vs→ds.length=vs.length
 | [],vs,h=>by unfold Reps at h;subst h;rfl
 | d :: ds,vs,h=>by
  unfold Reps at h
  obtain ⟨v,r,rfl,q,s⟩:=h
  rw [uM,uM,Reps.length ds r s]
theorem Reps.get:∀ (ds:List D) (vs:List V),Reps K M H ds vs→∀ (i:Nat) (d:D),ds[i]?=some d→∃ v,vs[i]?=some v∧Rep K M H d v
 | [],vs,h,i,d,e=>by simp at e
 | d :: ds,vs,h,i,d',e=>by
  unfold Reps at h
  obtain ⟨v,r,rfl,q,s⟩:=h
  cases i with
  | zero=>simp at e;subst e;exact⟨v,rfl,q⟩
  | succ i=>exact Reps.get ds r s i d' (by simpa using e)
theorem Reps.of:∀ (ds:List D) (vs:List V),ds.length=vs.length→(∀ (i:Nat) d v,ds[i]?=some d→vs[i]?=some v→Rep K M H d v)→Reps K M H ds vs
 | [],vs,l,_=>by unfold Reps;exact List.length_eq_zero_iff.mp l.symm
 | d :: ds,[],l,_=>by cases l
 | d :: ds,v :: vs,l,h=>by
  unfold Reps
  exact⟨v,vs,rfl,h 0 d v rfl rfl,Reps.of ds vs (Nat.succ.inj l) fun i d' v' e e'=>h (i + 1) d' v' (by simpa using e) (by simpa using e')⟩
theorem Reps.append:∀ (ds es:List D) (vs ws:List V),Reps K M H ds vs→Reps K M H es ws→Reps K M H (ds++es) (vs++ws)
 | [],es,vs,ws,h,k=>by unfold Reps at h;subst h;exact k
 | d :: ds,es,vs,ws,h,k=>by
  unfold Reps at h
  obtain ⟨v,r,rfl,q,s⟩:=h
  show Reps K M H (d :: (ds++es)) (v :: (r++ws))
  unfold Reps
  exact⟨v,r++ws,rfl,q,Reps.append ds es r ws s k⟩
theorem Reps.one {d:D} {v:V} (h:Rep K M H d v):Reps K M H [d] [v]:=by
 unfold Reps
 exact⟨v,[],rfl,h,by unfold Reps;rfl⟩
theorem Reps.nil:Reps K M H [] []:=by unfold Reps;rfl
theorem Reps.cons {d:D} {v:V} {ds:List D} {vs:List V} (h:Rep K M H d v) (r:Reps K M H ds vs):Reps K M H (d :: ds) (v :: vs):=by
 unfold Reps
 exact⟨v,vs,rfl,h,r⟩
theorem Reps.take:∀ (n:Nat) (ds:List D) (vs:List V),Reps K M H ds vs→Reps K M H (ds.take n) (vs.take n)
 | 0,ds,vs,h=>by simpa using Reps.nil
 | n + 1,[],vs,h=>by unfold Reps at h;subst h;simpa using Reps.nil
 | n + 1,d :: ds,vs,h=>by
  unfold Reps at h
  obtain ⟨v,r,rfl,q,s⟩:=h
  exact Reps.cons q (Reps.take n ds r s)
theorem Reps.drop:∀ (n:Nat) (ds:List D) (vs:List V),Reps K M H ds vs→Reps K M H (ds.drop n) (vs.drop n)
 | 0,ds,vs,h=>h
 | n + 1,[],vs,h=>by unfold Reps at h;subst h;simpa using Reps.nil
 | n + 1,d :: ds,vs,h=>by
  unfold Reps at h
  obtain ⟨v,r,rfl,q,s⟩:=h
  exact Reps.drop n ds r s
theorem Reps.set {d:D} {v:V} (h:Rep K M H d v):∀ (i:Nat) (ds:List D) (vs:List V),Reps K M H ds vs→Reps K M H (ds.set i d) (vs.set i v)
 | _,[],vs,r=>by unfold Reps at r;subst r;exact Reps.nil
 | 0,x :: ds,vs,r=>by
  unfold Reps at r
  obtain ⟨w,r,rfl,q,s⟩:=r
  exact Reps.cons h s
 | i + 1,x :: ds,vs,r=>by
  unfold Reps at r
  obtain ⟨w,r,rfl,q,s⟩:=r
  exact Reps.cons q (Reps.set h i ds r s)
theorem Reps.ints (ns:List Int):Reps K M H (ns.map D.int) (ns.map V.int):=by
 induction ns with
 | nil=>exact Reps.nil
 | cons n r ih=>exact Reps.cons (by unfold Rep;rfl) ih
end
inductive Sl where
 | no | dat (d:D) | own (a:Addr) (d:D)
structure Gf where
 M0:Addr→Prop
 H0:Hp
 Pm:Addr→Prop
def bg (K:PySem.W.Frag) (M:Addr→Prop) (H:Hp) (a:Addr):D→Prop
 | .lst ds=>∃ vs,H a=some (.lst vs)∧Reps K M H ds vs
 | .dct ks ds=>∃ vs,H a=some (.dK (eU ks vs))∧ks.length=ds.length∧Reps K M H ds vs
 | _=>False
structure Sx (K:PySem.W.Frag) (G:Gf) (A:Addr→Prop) (δ:List Sl) (P:List (D×V)) (σ:St) (H:Hp):Prop where
 old:∀ b o,G.H0 b=some o→¬ G.Pm b→H b=some o
 stay:∀ b,G.H0 b≠none→H b≠none
 m0:∀ b,G.M0 b→G.H0 b≠none
 pm:∀ b,G.Pm b→G.H0 b≠none∧¬ G.M0 b
 new:∀ b,A b→G.H0 b=none∨G.Pm b
 thr:∀ b,A b→H b≠none
 len:δ.length=σ.length
 dat:∀ (i:Nat) d,δ[i]?=some (.dat d)→∃ v,σ[i]?=some (some v)∧Rep K (fun b=>G.M0 b∨A b) H d v
 own:∀ (i:Nat) a d,δ[i]?=some (.own a d)→σ[i]?=some (some (.ref a))∧A a∧bg K (fun b=>G.M0 b∨A b) H a d
 inj:∀ (i j:Nat) a d e,δ[i]?=some (.own a d)→δ[j]?=some (.own a e)→i=j
 pnd:∀ p∈P,Rep K (fun b=>G.M0 b∨A b) H p.1 p.2
def S (K:PySem.W.Frag) (G:Gf) (δ:List Sl) (P:List (D×V)) (σ:St) (H:Hp):Prop:=∃ A,Sx K G A δ P σ H
inductive aU (K:PySem.W.Frag) (f:List D→(D→Prop)→Prop) (vs:List V) (H:Hp) (Q:VK):Prop
 | mk (M:Addr→Prop) (ds:List D) (R:D→Prop) (m:∀ b,M b→H b≠none) (rs:Reps K M H ds vs) (h:f ds R) (k:∀ d,R d→∀ v H',Same H H'→Rep K M H' d v→Q v H')
section
variable {K:PySem.W.Frag} {G:Gf} {A:Addr→Prop} {δ:List Sl} {P P':List (D×V)} {σ:St} {H H':Hp}
theorem bg.kp {M:Addr→Prop} {a:Addr} {d:D} (k:Kp M H H') (e:H' a=H a) (h:bg K M H a d):bg K M H' a d:=by
 cases d with
 | lst ds =>
  obtain ⟨vs,q,r⟩:=h
  exact⟨vs,e.trans q,Reps.kp k _ _ r⟩
 | dct ks ds =>
  obtain ⟨vs,q,l,r⟩:=h
  exact⟨vs,e.trans q,l,Reps.kp k _ _ r⟩
 | _=>exact h.elim
theorem bg.more {M M':Addr→Prop} {a:Addr} {d:D} (hM:∀ b,M' b→M b∨H b=none) (h:bg K M H a d):bg K M' H a d:=by
 cases d with
 | lst ds =>
  obtain ⟨vs,q,r⟩:=h
  exact⟨vs,q,Reps.more hM _ _ r⟩
 | dct ks ds =>
  obtain ⟨vs,q,l,r⟩:=h
  exact⟨vs,q,l,Reps.more hM _ _ r⟩
 | _=>exact h.elim
theorem Sx.sub (s:Sx K G A δ P σ H) (h:∀ p∈P',p∈P):Sx K G A δ P' σ H :=
 ⟨s.old,s.stay,s.m0,s.pm,s.new,s.thr,s.len,s.dat,s.own,s.inj,fun p hp=>s.pnd p (h p hp)⟩
theorem S.sub (s:S K G δ P σ H) (h:∀ p∈P',p∈P):S K G δ P' σ H:=let ⟨A,x⟩:=s;⟨A,x.sub h⟩
theorem Sx.same (s:Sx K G A δ P σ H) (h:Same H H'):Sx K G A δ P σ H' where
 old:=fun b o e n=>h b o (s.old b o e n)
 stay:=fun b e=>by
  cases q:H b with
  | none=>exact absurd q (s.stay b e)
  | some o=>rw [h b o q];exact fun z=>nomatch z
 m0:=s.m0
 pm:=s.pm
 new:=s.new
 thr:=fun b e=>by
  cases q:H b with
  | none=>exact absurd q (s.thr b e)
  | some o=>rw [h b o q];exact fun z=>nomatch z
 len:=s.len
 dat:=fun i d e=>let ⟨v,q,r⟩:=s.dat i d e;⟨v,q,Rep.kp (Kp.of_same h) _ _ r⟩
 own:=fun i a d e=>by
  obtain ⟨q,a1,o⟩:=s.own i a d e
  refine⟨q,a1,bg.kp (Kp.of_same h) ?_ o⟩
  cases z:H a with
  | none=>exact absurd z (s.thr a a1)
  | some o=>exact h a o z
 inj:=s.inj
 pnd:=fun p hp=>Rep.kp (Kp.of_same h) _ _ (s.pnd p hp)
theorem Sx.push (s:Sx K G A δ P σ H) {d:D} {v:V} (h:Rep K (fun b=>G.M0 b∨A b) H d v):Sx K G A δ ((d,v) :: P) σ H :=
 ⟨s.old,s.stay,s.m0,s.pm,s.new,s.thr,s.len,s.dat,s.own,s.inj,fun p hp=>by
  rcases uG.mp hp with rfl | hp
  ·exact h
  ·exact s.pnd p hp⟩
theorem Sx.mem (s:Sx K G A δ P σ H):∀ b,(G.M0 b∨A b)→H b≠none:=fun b h=>h.elim (fun z=>s.stay b (s.m0 b z)) fun z=>s.thr b z
theorem Sx.reps (s:Sx K G A δ P σ H):∀ (ds:List D) (vs:List V),ds.length=vs.length→(∀ p∈ds.zip vs,p∈P)→Reps K (fun b=>G.M0 b∨A b) H ds vs
 | [],[],_,_=>Reps.nil
 | d :: ds,v :: vs,l,h=>Reps.cons (s.pnd (d,v) (h _ (uF ..))) (Sx.reps s ds vs (Nat.succ.inj l) fun p hp=>h p (uB _ hp))
theorem S.pure {f:List D→(D→Prop)→Prop} {ds:List D} {vs:List V} {R:D→Prop} {Q:VK} (s:S K G δ P σ H) (hl:ds.length=vs.length) (hp:∀ p∈ds.zip vs,p∈P) (hs:∀ p∈P',p∈P) (hf:f ds R)
  (h:∀ d,R d→∀ v H',S K G δ ((d,v) :: P') σ H'→Q v H'):aU K f vs H Q:=by
 obtain ⟨A,x⟩:=s
 refine⟨fun b=>G.M0 b∨A b,ds,R,x.mem,x.reps ds vs hl hp,hf,fun d r v H' sm rp=>h d r v H' ⟨A,?_⟩⟩
 exact ((x.same sm).sub hs).push rp
theorem Sx.set {i:Nat} {d:D} {v:V} (s:Sx K G A δ P σ H) (hp:(d,v)∈P) (hs:∀ p∈P',p∈P):Sx K G A (δ.set i (.dat d)) P' (σ.set i (some v)) H where
 old:=s.old
 stay:=s.stay
 m0:=s.m0
 pm:=s.pm
 new:=s.new
 thr:=s.thr
 len:=by rw [List.length_set,List.length_set,s.len]
 dat:=fun j d' e=>by
  by_cases hij:i=j
  ·subst hij
   by_cases hl:i < δ.length
   ·rw [List.getElem?_set_self hl] at e
    cases e
    exact⟨v,by rw [List.getElem?_set_self (by rw [← s.len];exact hl)],s.pnd _ hp⟩
   ·rw [List.getElem?_eq_none (by rw [List.length_set];omega)] at e
    cases e
  ·rw [List.getElem?_set_ne hij] at e
   obtain ⟨v',q,r⟩:=s.dat j d' e
   exact⟨v',by rw [List.getElem?_set_ne hij];exact q,r⟩
 own:=fun j a d' e=>by
  by_cases hij:i=j
  ·subst hij
   by_cases hl:i < δ.length
   ·rw [List.getElem?_set_self hl] at e
    cases e
   ·rw [List.getElem?_eq_none (by rw [List.length_set];omega)] at e
    cases e
  ·rw [List.getElem?_set_ne hij] at e
   obtain ⟨q,r⟩:=s.own j a d' e
   exact⟨by rw [List.getElem?_set_ne hij];exact q,r⟩
 inj:=fun j k a d' e' h1 h2=>by
  have hj:δ[j]?=some (.own a d'):=by
   by_cases hij:i=j
   ·subst hij
    by_cases hl:i < δ.length
    ·rw [List.getElem?_set_self hl] at h1;cases h1
    ·rw [List.getElem?_eq_none (by rw [List.length_set];omega)] at h1;cases h1
   ·rw [List.getElem?_set_ne hij] at h1;exact h1
  have hk:δ[k]?=some (.own a e'):=by
   by_cases hij:i=k
   ·subst hij
    by_cases hl:i < δ.length
    ·rw [List.getElem?_set_self hl] at h2;cases h2
    ·rw [List.getElem?_eq_none (by rw [List.length_set];omega)] at h2;cases h2
   ·rw [List.getElem?_set_ne hij] at h2;exact h2
  exact s.inj j k a d' e' hj hk
 pnd:=fun p h=>s.pnd p (hs p h)
theorem S.set {i:Nat} {d:D} {v:V} (s:S K G δ P σ H) (hp:(d,v)∈P) (hs:∀ p∈P',p∈P):S K G (δ.set i (.dat d)) P' (σ.set i (some v)) H:=let ⟨A,x⟩:=s;⟨A,x.set hp hs⟩
end
end DL
namespace DL
open PySem L2
section
variable {K:PySem.W.Frag} {G:Gf} {A:Addr→Prop} {δ:List Sl} {P P':List (D×V)} {σ:St} {H H':Hp}
theorem cj {α:Type} {l:List α} {i j:Nat} {x y:α} (h:(l.set i x)[j]?=some y):(i=j∧x=y∧i < l.length)∨(i≠j∧l[j]?=some y):=by
 by_cases e:i=j
 ·subst e
  by_cases hl:i < l.length
  ·rw [List.getElem?_set_self hl] at h
   exact .inl ⟨rfl,Option.some.inj h,hl⟩
  ·rw [List.getElem?_eq_none (by rw [List.length_set];omega)] at h
   cases h
 ·rw [List.getElem?_set_ne e] at h
  exact .inr ⟨e,h⟩
theorem Sx.claim {i:Nat} {a:Addr} {d:D} (s:Sx K G A δ P σ H) (hn:H a=none) (hs:Same H H') (ho:bg K (fun b=>(G.M0 b∨A b)∨b=a) H' a d) (hP:∀ p∈P',p∈P) :
  Sx K G (fun b=>A b∨b=a) (δ.set i (.own a d)) P' (σ.set i (some (.ref a))) H':=by
 have x:=s.same hs
 have hM:∀ b,(G.M0 b∨(A b∨b=a))→(G.M0 b∨A b)∨H b=none:=fun b h=>by
  rcases h with h | h | h
  ·exact .inl (.inl h)
  ·exact .inl (.inr h)
  ·subst h;exact .inr hn
 have hM2:∀ b,(G.M0 b∨(A b∨b=a))→((G.M0 b∨A b)∨b=a)∨H' b=none:=fun b h=>by
  rcases h with h | h | h
  ·exact .inl (.inl (.inl h))
  ·exact .inl (.inl (.inr h))
  ·exact .inl (.inr h)
 have up:∀ d v,Rep K (fun b=>G.M0 b∨A b) H d v→Rep K (fun b=>G.M0 b∨(A b∨b=a)) H' d v:=fun d v r=>Rep.kp (Kp.of_same hs) _ _ (Rep.more hM _ _ r)
 have na:∀ b,A b→b≠a:=fun b h e=>s.thr b h (by rw [e];exact hn)
 have h0:G.H0 a=none:=by
  cases q:G.H0 a with
  | none=>rfl
  | some o=>exact absurd hn (s.stay a (by rw [q];exact fun z=>nomatch z))
 have hne:H' a≠none:=by
  cases d with
  | lst ds=>obtain ⟨vs,q,_⟩:=ho;rw [q];exact fun z=>nomatch z
  | dct ks ds=>obtain ⟨vs,q,_⟩:=ho;rw [q];exact fun z=>nomatch z
  | _=>exact ho.elim
 refine⟨x.old,x.stay,x.m0,x.pm,fun b h=>h.elim (s.new b) fun e=>.inl (by rw [e];exact h0),fun b h=>h.elim (x.thr b) fun e=>by rw [e];exact hne,by rw [List.length_set,List.length_set,s.len],fun j d' e=>?_,fun j b d' e=>?_,
  fun j k b d' e' h1 h2=>?_,fun p hp=>up _ _ (s.pnd p (hP p hp))⟩
 ·rcases cj e with ⟨_,z,_⟩ | ⟨hij,e⟩
  ·cases z
  ·obtain ⟨v,q,r⟩:=s.dat j d' e
   exact⟨v,by rw [List.getElem?_set_ne hij];exact q,up _ _ r⟩
 ·rcases cj e with ⟨hij,z,hl⟩ | ⟨hij,e⟩
  ·cases z
   subst hij
   exact⟨by rw [List.getElem?_set_self (by rw [← s.len];exact hl)],.inr rfl,bg.more hM2 ho⟩
  ·obtain ⟨q,r,o⟩:=s.own j b d' e
   refine⟨by rw [List.getElem?_set_ne hij];exact q,.inl r,bg.kp (Kp.of_same hs) ?_ (bg.more hM o)⟩
   cases z:H b with
   | none=>exact absurd z (s.thr b r)
   | some o'=>exact hs b o' z
 ·rcases cj h1 with ⟨hij,z,hl⟩ | ⟨hij,e⟩
  ·cases z
   rcases cj h2 with ⟨hik,_,_⟩ | ⟨hik,e2⟩
   ·rw [← hij,← hik]
   ·exact absurd rfl (na _ (s.own k _ _ e2).2.1)
  ·rcases cj h2 with ⟨hik,z,_⟩ | ⟨hik,e2⟩
   ·cases z
    exact absurd rfl (na _ (s.own j _ _ e).2.1)
   ·exact s.inj j k b d' e' e e2
theorem Sx.change {i:Nat} {a:Addr} {d d':D} (s:Sx K G A δ P σ H) (hi:δ[i]?=some (.own a d)) (hk:∀ b o,b≠a→H b=some o→H' b=some o) (ho:bg K (fun b=>G.M0 b∨A b) H' a d') :
  Sx K G A (δ.set i (.own a d')) P σ H':=by
 obtain ⟨si,ai,oi⟩:=s.own i a d hi
 have hmu:(∀ xs,H a≠some (.tup xs))∧∀ o u,H a≠some (.frz o u):=by
  cases d with
  | lst ds=>obtain ⟨vs,q,_⟩:=oi;rw [q];exact⟨fun _ z=>(nomatch z),fun _ _ z=>(nomatch z)⟩
  | dct ks ds=>obtain ⟨vs,q,_⟩:=oi;rw [q];exact⟨fun _ z=>(nomatch z),fun _ _ z=>(nomatch z)⟩
  | _=>exact oi.elim
 have hne:H' a≠none:=by
  cases d' with
  | lst ds=>obtain ⟨vs,q,_⟩:=ho;rw [q];exact fun z=>nomatch z
  | dct ks ds=>obtain ⟨vs,q,_⟩:=ho;rw [q];exact fun z=>nomatch z
  | _=>exact ho.elim
 have kp:Kp (fun b=>G.M0 b∨A b) H H':=⟨fun b o e n=>hk b o (fun z=>n (.inr (by rw [z];exact ai))) e,fun b xs e=>hk b _ (fun z=>hmu.1 xs (by rw [← z];exact e)) e,
  fun b o u e=>hk b _ (fun z=>hmu.2 o u (by rw [← z];exact e)) e⟩
 have stay:∀ b,H b≠none→H' b≠none:=fun b e=>by
  by_cases z:b=a
  ·rw [z];exact hne
  ·cases q:H b with
   | none=>exact absurd q e
   | some o=>rw [hk b o z q];exact fun z=>nomatch z
 have na:∀ b o,G.H0 b=some o→¬ G.Pm b→b≠a:=fun b o e n z=>(s.new a ai).elim (fun q=>by rw [z] at e;rw [e] at q;cases q) fun q=>n (by rw [z];exact q)
 refine⟨fun b o e n=>hk b o (na b o e n) (s.old b o e n),fun b e=>stay b (s.stay b e),s.m0,s.pm,s.new,fun b e=>stay b (s.thr b e),by rw [List.length_set,s.len],fun j x e=>?_,fun j b x e=>?_,fun j k b x y h1 h2=>?_,
  fun p hp=>Rep.kp kp _ _ (s.pnd p hp)⟩
 ·rcases cj e with ⟨_,z,_⟩ | ⟨hij,e⟩
  ·cases z
  ·obtain ⟨v,q,r⟩:=s.dat j x e
   exact⟨v,q,Rep.kp kp _ _ r⟩
 ·rcases cj e with ⟨hij,z,hl⟩ | ⟨hij,e9⟩
  ·cases z
   subst hij
   exact⟨si,ai,ho⟩
  ·clear e
   obtain ⟨q,r,o⟩:=s.own j b x e9
   have hb:b≠a:=fun z=>by rw [z] at e9;exact hij (s.inj _ _ _ _ _ hi e9)
   refine⟨q,r,bg.kp kp ?_ o⟩
   cases z:H b with
   | none=>exact absurd z (s.thr b r)
   | some o'=>exact hk b o' hb z
 ·have hj:∃ x',δ[j]?=some (.own b x'):=by
   rcases cj h1 with ⟨hij,z,hl⟩ | ⟨hij,e⟩
   ·cases z;subst hij;exact⟨_,hi⟩
   ·exact⟨_,e⟩
  have hk':∃ x',δ[k]?=some (.own b x'):=by
   rcases cj h2 with ⟨hij,z,hl⟩ | ⟨hij,e⟩
   ·cases z;subst hij;exact⟨_,hi⟩
   ·exact⟨_,e⟩
  obtain ⟨x1,e1⟩:=hj
  obtain ⟨x2,e2⟩:=hk'
  exact s.inj j k b x1 x2 e1 e2
theorem bg.rep {M M':Addr→Prop} {a:Addr} {d:D} (h:bg K M H a d) (n:¬ M' a) (hM:∀ b,M' b→M b):Rep K M' H d (.ref a):=by
 cases d with
 | lst ds =>
  obtain ⟨vs,q,r⟩:=h
  unfold Rep
  exact⟨a,vs,rfl,n,q,Reps.more (fun b z=>.inl (hM b z)) _ _ r⟩
 | dct ks ds =>
  obtain ⟨vs,q,l,r⟩:=h
  unfold Rep
  exact⟨a,vs,rfl,n,q,l,Reps.more (fun b z=>.inl (hM b z)) _ _ r⟩
 | _=>exact h.elim
end
end DL
namespace DL
open PySem PySem.Spec PyProof.Rows L2
inductive W where
 | d (x:D) | o (i:Nat)
abbrev En:=List Sl
abbrev TDE:=En→(W→En→Prop)→Prop
abbrev TDA:=En→(List D→En→Prop)→Prop
abbrev TDT:=En→(Bool→En→Prop)→Prop
structure sU where
 nx:En→Prop
 rt:D→En→Prop
 bk:En→Prop:=fun _=>False
 ct:En→Prop:=fun _=>False
 ro:D→Prop:=fun _=>False
 tp:Prop:=False
 ex:Str→Str→D→Prop:=fun _ _ _=>False
abbrev TDS:=sU→En→Prop
abbrev TDG:=D→En→(En→Prop)→Prop
abbrev TDGs:=List D→En→(En→Prop)→Prop
def wd (R:D→En→Prop):W→En→Prop
 | .d x,δ=>R x δ
 | .o _,_=>False
inductive Up (K:PySem.W.Frag) (t:TDE) (σ:L2.St) (H:Hp) (Q:VK):Prop
 | mk (G:Gf) (δ:En) (P:List (D×V)) (R:W→En→Prop) (s:S K G δ P σ H) (h:t δ R) (k:(∀ x δ',R (.d x) δ'→∀ v H',S K G δ' ((x,v) :: P) σ H'→Q v H')∧(∀ i δ',R (.o i) δ'→∀ a d H',S K G δ' P σ H'→δ'[i]?=some (.own a d)→Q (.ref a) H'))
def up (K:PySem.W.Frag) (t:TDE):TE:=Up K t
inductive UpA (K:PySem.W.Frag) (t:TDA) (σ:L2.St) (H:Hp) (Q:List V→Hp→Prop):Prop
 | mk (G:Gf) (δ:En) (P:List (D×V)) (R:List D→En→Prop) (s:S K G δ P σ H) (h:t δ R) (k:∀ ds δ',R ds δ'→∀ vs H',ds.length=vs.length→S K G δ' (ds.zip vs++P) σ H'→Q vs H')
def upA (K:PySem.W.Frag) (t:TDA):TA:=UpA K t
inductive UpT (K:PySem.W.Frag) (t:TDT) (σ:L2.St) (H:Hp) (Q:Bool→Hp→Prop):Prop
 | mk (G:Gf) (δ:En) (P:List (D×V)) (R:Bool→En→Prop) (s:S K G δ P σ H) (h:t δ R) (k:∀ b δ',R b δ'→∀ H',S K G δ' P σ H'→Q b H')
def upT (K:PySem.W.Frag) (t:TDT):TT:=UpT K t
inductive UpG (K:PySem.W.Frag) (t:TDG) (v:V) (σ:L2.St) (H:Hp) (Q:L2.St→Hp→Prop):Prop
 | mk (G:Gf) (δ:En) (P:List (D×V)) (d:D) (R:En→Prop) (s:S K G δ ((d,v) :: P) σ H) (h:t d δ R) (k:∀ δ',R δ'→∀ σ' H',S K G δ' P σ' H'→Q σ' H')
def upG (K:PySem.W.Frag) (t:TDG):TG:=UpG K t
inductive UpGs (K:PySem.W.Frag) (t:TDGs) (vs:List V) (σ:L2.St) (H:Hp) (Q:L2.St→Hp→Prop):Prop
 | mk (G:Gf) (δ:En) (P:List (D×V)) (ds:List D) (R:En→Prop) (hl:ds.length=vs.length) (s:S K G δ (ds.zip vs++P) σ H) (h:t ds δ R) (k:∀ δ',R δ'→∀ σ' H',S K G δ' P σ' H'→Q σ' H')
def upGs (K:PySem.W.Frag) (t:TDGs):TGs:=UpGs K t
def nn (K:PySem.W.Frag) (G:Gf) (H':Hp) (a:Addr) (d:D):Prop:=(∀ b o,G.H0 b=some o→¬ G.Pm b→H' b=some o)∧(G.H0 a=none∨G.Pm a)∧¬ G.M0 a∧bg K (fun b=>G.M0 b∨b=a) H' a d
inductive UpS (K:PySem.W.Frag) (W:XK) (t:TDS) (E:Ends) (σ:L2.St) (H:Hp):Prop
 | mk (G:Gf) (δ:En) (P:List (D×V)) (R:sU) (s:S K G δ P σ H) (h:t R δ) (k:(∀ δ',R.nx δ'→∀ σ' H',S K G δ' P σ' H'→E.nx σ' H')∧((∀ d δ',R.rt d δ'→∀ v σ' H',S K G δ' ((d,v) :: P) σ' H'→E.rt v H')∧(∀ d,R.ro d→∀ a H',nn K G H' a d→E.rt (.ref a) H')∧∀ c f d,R.ex c f d→∀ e C dx δ' σ' H',S K G δ' ((.exn c f d,.ref e) :: P) σ' H'→H' e=some (XAt e C dx)→W (.ref e) (some dx) H') ∧
 (∀ δ',R.bk δ'→∀ σ' H',S K G δ' P σ' H'→E.bk σ' H')∧(∀ δ',R.ct δ'→∀ σ' H',S K G δ' P σ' H'→E.ct σ' H')∧(R.tp→P=[]∧∀ b o,G.H0 b=some o→∃ ob xs,o=.frz ob (.lst xs)))
theorem exs {K:PySem.W.Frag} {G:Gf} {P:List (D×V)} {W:XK} {R:Str→Str→D→Prop} {q:D×V} (k:∀ c f d,R c f d→∀ e C dx δ' σ' H',S K G δ' ((.exn c f d,.ref e) :: P) σ' H'→H' e=some (XAt e C dx)→W (.ref e) (some dx) H') :
  ∀ c f d,R c f d→∀ e C dx δ' σ' H',S K G δ' ((.exn c f d,.ref e) :: q :: P) σ' H'→H' e=some (XAt e C dx)→W (.ref e) (some dx) H':=fun c f d r e C dx δ' σ' H' s=>k c f d r e C dx δ' σ' H' (s.sub fun p hp=>by
 rcases uG.mp hp with rfl | hp
 ·simp
 ·simp [hp])
def TbOk (h:Heap) (e:Addr) (t:Value):Prop:=t=.none∨∃ T oT ts,t=.ref T∧T≠e∧h.get? T=some oT∧oT.data=.fields ts∧ts[3]?=some .none
structure il (X:Cx) (pins:List (Addr×Obj)) (H':Hp) (e C dx:Addr) (s':Shared):Prop where
 ex:∃ (σ:L2.St) (a t:Value),L2.Inv X pins σ H' s'∧s'.heap.get? e=some (xob C (some dx) a t)∧TbOk s'.heap e t ∧
  (∀ T,t=.ref T→H' T=none∧X.s₀.heap.objs.size≤T∧T≠X.env.locals∧(∀ x c,X.env.cells.lookup x=some c→c≠T)∧∀ p∈X.pn++pins,p.1≠T)∧H' e=some (XAt e C dx)
def XEs (X:Cx):XK:=fun ev dxo H'=>∀ e C dx pins s',ev=.ref e→dxo=some dx→il X pins H' e C dx s'→X.xe (.ref e) s'
def upS (X:Cx) (t:TDS):TS:=UpS X.K (XEs X) t
def DE (X:Cx) (e:Expr) (t:TDE):Prop:=PE X e (up X.K t)
def DA (X:Cx) (es:List Expr) (t:TDA):Prop:=PA X es (upA X.K t)
def DT (X:Cx) (e:Expr) (t:TDT):Prop:=PT X e (upT X.K t)
def DW (X:Cx) (e:Expr) (t:TDT):Prop:=PW X e (upT X.K t)
def DG (X:Cx) (e:Expr) (t:TDG):Prop:=PG X e (upG X.K t)
def DGs (X:Cx) (e:List Expr) (t:TDGs):Prop:=PGs X e (upGs X.K t)
def DS (X:Cx) (st:Stmt) (t:TDS):Prop:=PS X st (upS X t)
def DSs (X:Cx) (st:List Stmt) (t:TDS):Prop:=PSs X st (upS X t)
section
variable {X:Cx} {e:Expr} {pos:Pos}
theorem PE.imp {t t':TE} (h:PE X e t) (i:∀ σ H Q,t' σ H Q→t σ H Q):PE X e t':=fun pins s σ H Q I q=>h pins s σ H Q I (i σ H Q q)
theorem PT.imp {t t':TT} (h:PT X e t) (i:∀ σ H Q,t' σ H Q→t σ H Q):PT X e t':=fun pins s σ H Q I q=>h pins s σ H Q I (i σ H Q q)
theorem PW.imp {t t':TT} (h:PW X e t) (i:∀ σ H Q,t' σ H Q→t σ H Q):PW X e t':=fun wh pins s σ H Q I q=>h wh pins s σ H Q I (i σ H Q q)
theorem PA.imp {es:List Expr} {t t':TA} (h:PA X es t) (i:∀ σ H Q,t' σ H Q→t σ H Q):PA X es t':=fun p pins s σ H Q I q=>h p pins s σ H Q I (i σ H Q q)
theorem PS.imp {st:Stmt} {t t':TS} (h:PS X st t) (i:∀ E σ H,t' E σ H→t E σ H):PS X st t':=fun pins s σ H D I q=>h pins s σ H D I (i D σ H q)
theorem PSs.imp {st:List Stmt} {t t':TS} (h:PSs X st t) (i:∀ E σ H,t' E σ H→t E σ H):PSs X st t':=fun pins s σ H D I q=>h pins s σ H D I (i D σ H q)
theorem PG.imp {t t':TG} (h:PG X e t) (i:∀ v σ H Q,t' v σ H Q→t v σ H Q):PG X e t':=fun pins s σ H v u Q I r q=>h pins s σ H v u Q I r (i v σ H Q q)
theorem PGs.imp {es:List Expr} {t t':TGs} (h:PGs X es t) (i:∀ v σ H Q,t' v σ H Q→t v σ H Q):PGs X es t':=fun pins s σ H v u Q I r q=>h pins s σ H v u Q I r (i v σ H Q q)
theorem OpR.imp {f:Value→Value→Sem Value} {r r':R2} (h:OpR X f r) (i:∀ x y H Q,r' x y H Q→r x y H Q):OpR X f r':=fun pins s σ H x y v u Q I rx ry q=>h pins s σ H x y v u Q I rx ry (i x y H Q q)
theorem UnR.imp {f:Value→Sem Value} {r r':V→Hp→VK→Prop} (h:UnR X f r) (i:∀ x H Q,r' x H Q→r x H Q):UnR X f r':=fun pins s σ H x v Q I rx q=>h pins s σ H x v Q I rx (i x H Q q)
theorem bx.imp {f:Value} {r r':List V→Hp→VK→Prop} (h:bx X f r) (i:∀ xs H Q,r' xs H Q→r xs H Q):bx X f r':=fun pins s σ H x v Q I rx q=>h pins s σ H x v Q I rx (i x H Q q)
theorem IxR.imp {r r':R2} (h:IxR X r) (i:∀ x y H Q,r' x y H Q→r x y H Q):IxR X r':=fun value slice pins s σ H x y v u Q I rx ry q hs=>h value slice pins s σ H x y v u Q I rx ry (i x y H Q q) hs
end
section
variable {K:PySem.W.Frag} {G:Gf} {δ:En} {P:List (D×V)} {σ:L2.St} {H:Hp}
theorem up.mk {t:TDE} {R:D→En→Prop} {Q:VK} (s:S K G δ P σ H) (h:t δ (wd R)) (k:∀ x δ',R x δ'→∀ v H',S K G δ' ((x,v) :: P) σ H'→Q v H'):up K t σ H Q:=⟨G,δ,P,wd R,s,h,k,fun _ _ z=>z.elim⟩
theorem S.dat {i:Nat} {d:D} (s:S K G δ P σ H) (e:δ[i]?=some (.dat d)):∃ v,σ[i]?=some (some v)∧S K G δ ((d,v) :: P) σ H:=by
 obtain ⟨A,x⟩:=s
 obtain ⟨v,q,r⟩:=x.dat i d e
 exact⟨v,q,A,x.push r⟩
theorem S.own {i:Nat} {a:Addr} {d:D} (s:S K G δ P σ H) (e:δ[i]?=some (.own a d)):σ[i]?=some (some (.ref a)):=let ⟨_,x⟩:=s;(x.own i a d e).1
def sc:D→Option V
 | .non=>some .non
 | .bl b=>some (.bl b)
 | .int i=>some (.int i)
 | .str x=>some (.str x)
 | _=>none
theorem Rep.sc {M:Addr→Prop} {d:D} {v:V} (h:sc d=some v):Rep K M H d v:=by
 cases d<;>simp only [DL.sc,Option.some.injEq,reduceCtorEq] at h<;>subst h<;>unfold Rep<;>rfl
theorem S.sc {d:D} {v:V} (s:S K G δ P σ H) (h:sc d=some v):S K G δ ((d,v) :: P) σ H:=let ⟨A,x⟩:=s;⟨A,x.push (Rep.sc h)⟩
end
def dV (i:Nat):TDE:=fun δ R=>∃ d,δ[i]?=some (.dat d)∧R (.d d) δ
def dC (d:D):TDE:=fun δ R=>R (.d d) δ
def dOp (f:List D→(D→Prop)→Prop) (ta tb:TDE):TDE:=fun δ R=>ta δ (wd fun x δ1=>tb δ1 (wd fun y δ2=>f [x,y] fun d=>R (.d d) δ2))
def dUn (f:List D→(D→Prop)→Prop) (ta:TDE):TDE:=fun δ R=>ta δ (wd fun x δ1=>f [x] fun d=>R (.d d) δ1)
def sT:TDA:=fun δ R=>R [] δ
def nA (te:TDE) (t:TDA):TDA:=fun δ R=>te δ (wd fun x δ1=>t δ1 fun ds δ2=>R (x :: ds) δ2)
def jQ (f:List D→(D→Prop)→Prop) (t:TDA):TDE:=fun δ R=>t δ fun ds δ1=>f ds fun d=>R (.d d) δ1
def dTup (t:TDA):TDE:=fun δ R=>t δ fun ds δ1=>ds.length≤9000∧R (.d (.tup ds)) δ1
def dLst (t:TDA):TDE:=fun δ R=>t δ fun ds δ1=>ds.length≤9000∧R (.d (.lst ds)) δ1
def dTst (t:TDE):TDT:=fun δ R=>t δ (wd fun x δ1=>∃ b,x=.bl b∧R b δ1)
def dAnd (t u:TDT):TDT:=fun δ R=>t δ fun b δ1=>if b=true then u δ1 R else R false δ1
def dOr (t u:TDT):TDT:=fun δ R=>t δ fun b δ1=>if b=true then R true δ1 else u δ1 R
def dNot (t:TDT):TDT:=fun δ R=>t δ fun b δ1=>R (!b) δ1
def sO (t u:TDE):TDE:=fun δ R=>t δ (wd fun x δ1=>∃ b,x=.bl b∧if b=true then u δ1 R else R (.d (.bl false)) δ1)
def dOrV (t u:TDE):TDE:=fun δ R=>t δ (wd fun x δ1=>∃ b,x=.bl b∧if b=true then R (.d (.bl true)) δ1 else u δ1 R)
def rJ (t:TDE):TDE:=fun δ R=>t δ (wd fun x δ1=>∃ b,x=.bl b∧R (.d (.bl (!b))) δ1)
def dIfE (c:TDT) (t u:TDE):TDE:=fun δ R=>c δ fun b δ1=>if b=true then t δ1 R else u δ1 R
section
variable {X:Cx} {pos:Pos} {a b c:Expr} {ta tb:TDE} {t:TDA} {f:List D→(D→Prop)→Prop} {es:List Expr}
theorem de_v (i:Nat) {x:Str} (hN:X.N[i]?=some x:=by rfl) (hv:Vis X.env.scope x:=by walk_at "v3") (hd:(x == ("__debug__":Str))=false:=by decide)
  (hcd:(x == ("__classdict__":Str))=false:=by decide):DE X (.Name x pos) (dV i):=PE.imp (a8 hN hv hd hcd) fun σ H Q ⟨G,δ,P,R,s,⟨d,e,r⟩,k,_⟩=>by
 obtain ⟨v,q,s'⟩:=s.dat e
 exact⟨v,q,k d δ r v H s'⟩
theorem de_c {v:V} {d:D} (h:PE X a (tC v)) (hs:sc d=some v):DE X a (dC d):=PE.imp h fun σ H Q ⟨G,δ,P,R,s,r,k,_⟩=>k d δ r v H (s.sc hs)
theorem ae {i j pos}:DE X (.Constant (.int i) j pos) (dC (.int i)):=de_c sk rfl
theorem kl {i j pos}:DE X (.Constant (.bool i) j pos) (dC (.bl i)):=de_c tW rfl
theorem qK {j pos}:DE X (.Constant .none j pos) (dC .non):=de_c sR rfl
theorem ay {x j pos}:DE X (.Constant (.str x) j pos) (dC (.str x)):=de_c jf rfl
theorem au {op:Operator} (ho:OpR X (binaryOp op) fun x y=>aU X.K f [x,y]) (ha:DE X a ta) (hb:DE X b tb):DE X (.BinOp a op b pos) (dOp f ta tb) :=
 PE.imp (ui ho ha hb) fun σ H Q ⟨G,δ,P,R,s,h,k,_⟩=>up.mk s h fun x δ1 h1 v H1 s1=>up.mk s1 h1 fun y δ2 h2 u H2 s2 =>
  S.pure (P':=P) (ds:=[x,y]) (vs:=[v,u]) s2 rfl (by simp) (fun p hp=>by simp [hp]) h2 fun d r v' H' s'=>k d δ2 r v' H' s'
theorem cp {op:CmpOp} (ho:OpR X (compareOp op) fun x y=>aU X.K f [x,y]) (ha:DE X a ta) (hb:DE X b tb) (hm:behindInMarks op b=false):DE X (.Compare a [op] [b] pos) (dOp f ta tb) :=
 PE.imp (pN ho ha hb hm) fun σ H Q ⟨G,δ,P,R,s,h,k,_⟩=>up.mk s h fun x δ1 h1 v H1 s1=>up.mk s1 h1 fun y δ2 h2 u H2 s2 =>
  S.pure (P':=P) (ds:=[x,y]) (vs:=[v,u]) s2 rfl (by simp) (fun p hp=>by simp [hp]) h2 fun d r v' H' s'=>k d δ2 r v' H' s'
theorem aO {op:CmpOp} (ho:OpR X (compareOp op) fun x y=>aU X.K f [x,y]) (ha:DE X a ta) (hb:DE X b tb) (hm:behindInMarks op b=false):DT X (.Compare a [op] [b] pos) (dTst (dOp f ta tb)) :=
 PT.imp (qj ho ha hb hm) fun σ H Q ⟨G,δ,P,R,s,h,k⟩=>up.mk s h fun x δ1 h1 v H1 s1=>up.mk s1 h1 fun y δ2 h2 u H2 s2 =>
  S.pure (P':=P) (ds:=[x,y]) (vs:=[v,u]) s2 rfl (by simp) (fun p hp=>by simp [hp]) h2 fun d r v' H' s'=>by
   obtain ⟨b,e,r⟩:=r
   subst e
   have q:=s'
   obtain ⟨A,q⟩:=q
   have q2:=q.pnd (.bl b,v') (by simp)
   simp only [Rep] at q2
   exact⟨b,q2,k b δ2 r H' (s'.sub fun p hp=>by simp [hp])⟩
theorem cZ {op:UnaryOp} (ho:UnR X (unaryOp op) fun x=>aU X.K f [x]) (ha:DE X a ta):DE X (.UnaryOp op a pos) (dUn f ta) :=
 PE.imp (tU ho ha) fun σ H Q ⟨G,δ,P,R,s,h,k,_⟩=>up.mk s h fun x δ1 h1 v H1 s1 =>
  S.pure (P':=P) (ds:=[x]) (vs:=[v]) s1 rfl (by simp) (fun p hp=>by simp [hp]) h1 fun d r v' H' s'=>k d δ1 r v' H' s'
theorem bT (h:DE X a ta) (he:∀ whole,isTrue a X.env whole=(do let v←whole;standAt a.pos;holding [v] (truthy v)):=by intro _;rfl):DT X a (dTst ta) :=
 PT.imp (tK h he) fun σ H Q ⟨G,δ,P,R,s,h,k⟩=>up.mk s h fun x δ1 h1 v H1 s1=>by
  obtain ⟨b,e,r⟩:=h1
  subst e
  obtain ⟨A,q⟩:=id s1
  have q2:=q.pnd (.bl b,v) (by simp)
  simp only [Rep] at q2
  exact⟨b,q2,k b δ1 r H1 (s1.sub fun p hp=>by simp [hp])⟩
variable {tA tB':TDT} {rest:List Expr}
theorem DW.dt (h:DW X a tA):DT X a tA:=PW.pt h
theorem kO (ha:DT X a tA):DW X (.BoolOp .And [a] pos) tA:=oK ha
theorem fq (ha:DT X a tA):DW X (.BoolOp .Or [a] pos) tA:=qT ha
theorem nK (ha:DT X a tA) (hb:DW X (.BoolOp .And (b :: rest) pos) tB'):DW X (.BoolOp .And (a :: b :: rest) pos) (dAnd tA tB') :=
 PW.imp (rW ha hb) fun σ H Q ⟨G,δ,P,R,s,h,k⟩=>⟨G,δ,P,_,s,h,fun b δ1 h1 H1 s1=>by
  cases b with
  | true=>exact⟨G,δ1,P,R,s1,h1,k⟩
  | false=>exact k false δ1 h1 H1 s1⟩
theorem jY (ha:DT X a tA) (hb:DW X (.BoolOp .Or (b :: rest) pos) tB'):DW X (.BoolOp .Or (a :: b :: rest) pos) (dOr tA tB') :=
 PW.imp (ut ha hb) fun σ H Q ⟨G,δ,P,R,s,h,k⟩=>⟨G,δ,P,_,s,h,fun b δ1 h1 H1 s1=>by
  cases b with
  | true=>exact k true δ1 h1 H1 s1
  | false=>exact⟨G,δ1,P,R,s1,h1,k⟩⟩
theorem gM (ha:DT X a tA):DT X (.UnaryOp .Not a pos) (dNot tA) :=
 PT.imp (qO ha) fun σ H Q ⟨G,δ,P,R,s,h,k⟩=>⟨G,δ,P,_,s,h,fun b δ1 h1 H1 s1=>k _ δ1 h1 H1 s1⟩
theorem kP {K:PySem.W.Frag} {G:Gf} {δ:En} {P:List (D×V)} {σ:L2.St} {H:Hp} {b:Bool} {v:V} (s:S K G δ ((.bl b,v) :: P) σ H):v=.bl b:=by
 obtain ⟨A,q⟩:=s
 have q2:=q.pnd (.bl b,v) (by simp)
 simpa only [Rep] using q2
theorem fA {op} (h:DE X a ta):DE X (.BoolOp op [a] pos) ta:=qQ h
theorem gv (ha:DE X a ta) (hb:DE X (.BoolOp .And (b :: rest) pos) tb):DE X (.BoolOp .And (a :: b :: rest) pos) (sO ta tb) :=
 PE.imp (tL ha hb) fun σ H Q ⟨G,δ,P,R,s,h,k,k2⟩=>up.mk s h fun x δ1 h1 v H1 s1=>by
  obtain ⟨b,e,r⟩:=h1
  subst e
  refine⟨b,kP s1,?_⟩
  cases b with
  | true=>exact⟨G,δ1,P,R,s1.sub fun p hp=>by simp [hp],r,k,k2⟩
  | false=>exact k (.bl false) δ1 r _ H1 (by rw [← kP s1];exact s1)
theorem sS (ha:DE X a ta) (hb:DE X (.BoolOp .Or (b :: rest) pos) tb):DE X (.BoolOp .Or (a :: b :: rest) pos) (dOrV ta tb) :=
 PE.imp (uf ha hb) fun σ H Q ⟨G,δ,P,R,s,h,k,k2⟩=>up.mk s h fun x δ1 h1 v H1 s1=>by
  obtain ⟨b,e,r⟩:=h1
  subst e
  refine⟨b,kP s1,?_⟩
  cases b with
  | false=>exact⟨G,δ1,P,R,s1.sub fun p hp=>by simp [hp],r,k,k2⟩
  | true=>exact k (.bl true) δ1 r _ H1 (by rw [← kP s1];exact s1)
theorem k8 (ha:DE X a ta):DE X (.UnaryOp .Not a pos) (rJ ta) :=
 PE.imp (r6 ha) fun σ H Q ⟨G,δ,P,R,s,h,k,k2⟩=>up.mk s h fun x δ1 h1 v H1 s1=>by
  obtain ⟨b,e,r⟩:=h1
  subst e
  exact⟨b,kP s1,k _ δ1 r _ H1 ((s1.sub fun p hp=>by simp [hp]).sc rfl)⟩
theorem pL (hc:DT X c tA) (ha:DE X a ta) (hb:DE X b tb):DE X (.IfExp c a b pos) (dIfE tA ta tb) :=
 PE.imp (mS hc ha hb) fun σ H Q ⟨G,δ,P,R,s,h,k,k2⟩=>⟨G,δ,P,_,s,h,fun b δ1 h1 H1 s1=>by
  cases b with
  | true=>exact⟨G,δ1,P,R,s1,h1,k,k2⟩
  | false=>exact⟨G,δ1,P,R,s1,h1,k,k2⟩⟩
theorem af:DA X [] sT:=PA.imp bS fun σ H Q ⟨G,δ,P,R,s,h,k⟩=>k [] δ h [] H rfl s
theorem ac (ha:DE X a ta) (hr:DA X es t) (hs:starEach (a :: es) X.env=(false,eval a X.env) :: starEach es X.env:=by rfl):DA X (a :: es) (nA ta t) :=
 PA.imp (aI ha hr hs) fun σ H Q ⟨G,δ,P,R,s,h,k⟩=>up.mk s h fun x δ1 h1 v H1 s1=>⟨G,δ1,(x,v) :: P,_,s1,h1,fun ds δ2 h2 vs H2 hl s2 =>
  k (x :: ds) δ2 h2 (v :: vs) H2 (by simp [hl]) (s2.sub fun p hp=>by
   simp only [List.zip_cons_cons,List.cons_append,uG,uJ] at hp ⊢
   rcases hp with h | h | h
   ·exact .inr (.inl h)
   ·exact .inl h
   ·exact .inr (.inr h))⟩
theorem al {H:Hp} {p:Addr} (h:H p=none) (o:HO):Same H (upd H p o):=fun b u q=>by rw [ap (bH q h)];exact q
theorem gU {n:Nat} (h:n≤9000):n < sizeLine:=Nat.lt_of_le_of_lt h (by decide)
theorem dh {n:Nat} (h:n≤9000):n≤sizeLine:=Nat.le_of_lt (gU h)
theorem bB {x1} (h:DA X es t):DE X (.Tuple es x1 pos) (dTup t) :=
 PE.imp (nT h) fun σ H Q ⟨G,δ,P,R,s,h,k,_⟩=>⟨G,δ,P,_,s,h,fun ds δ1 ⟨hz,h1⟩ vs H1 hl s1=>⟨by rw [← hl];exact dh hz,fun p hp=>by
  obtain ⟨A,x⟩:=s1
  have r:=x.reps ds vs hl (fun q hq=>uI _ hq)
  have x2:=x.same (al hp (.tup vs))
  refine k (.tup ds) δ1 h1 (.ref p) _ ⟨A,(x2.sub fun q hq=>uH _ hq).push ?_⟩
  unfold Rep
  exact⟨p,vs,rfl,SqT.of ak,Reps.kp (Kp.of_same (al hp _)) _ _ r⟩⟩⟩
theorem aQ (h:DA X es t):DE X (.List es pos) (dLst t) :=
 PE.imp (lS h) fun σ H Q ⟨G,δ,P,R,s,h,k,_⟩=>⟨G,δ,P,_,s,h,fun ds δ1 ⟨hz,h1⟩ vs H1 hl s1=>⟨by rw [← hl];exact dh hz,fun p hp=>by
  obtain ⟨A,x⟩:=s1
  have r:=x.reps ds vs hl (fun q hq=>uI _ hq)
  have x2:=x.same (al hp (.lst vs))
  refine k (.lst ds) δ1 h1 (.ref p) _ ⟨A,(x2.sub fun q hq=>uH _ hq).push ?_⟩
  unfold Rep
  exact⟨p,vs,rfl,fun z=>x.mem p z hp,ak,Reps.kp (Kp.of_same (al hp _)) _ _ r⟩⟩⟩
theorem ao (hr:IxR X fun x y=>aU X.K f [x,y]) (ha:DE X a ta) (hb:DE X b tb) (hs:iQ b):DE X (.Subscript a b pos) (dOp f ta tb) :=
 PE.imp (tf hr ha hb hs) fun σ H Q ⟨G,δ,P,R,s,h,k,_⟩=>up.mk s h fun x δ1 h1 v H1 s1=>up.mk s1 h1 fun y δ2 h2 u H2 s2 =>
  S.pure (P':=P) (ds:=[x,y]) (vs:=[v,u]) s2 rfl (by simp) (fun p hp=>by simp [hp]) h2 fun d r v' H' s'=>k d δ2 r v' H' s'
def spD (K:PySem.W.Frag) (f:List D→(D→Prop)→Prop):Sp:=fun vs H Q _=>aU K f vs H Q
theorem fL {K:PySem.W.Frag} {σ:L2.St} {H:Hp} {Q:VK} {f:List D→(D→Prop)→Prop} (h:up K (jQ f t) σ H Q):upA K t σ H fun vs H1=>aU K f vs H1 Q:=by
 obtain ⟨G,δ,P,R,s,h,k,_⟩:=h
 exact⟨G,δ,P,_,s,h,fun ds δ1 h1 vs H1 hl s1=>S.pure (P':=P) s1 hl (fun p hp=>uI _ hp) (fun p hp=>uH _ hp) h1 fun d r v' H' s'=>k d δ1 r v' H' s'⟩
theorem pQ {x:Str} {k:Nat} {g:Addr} {fd:FuncData} {ps:List Str} {p:Pos} (F:FnOk X.prog X.w X.K X.mg X.base CX0 k g fd ps (spD X.K f)) (hr:Room k X.A) (hg:Gl X x) (hm:X.mg x=some (.ref g)) (hk:PySem.W.keepIn X.K (.ref g)=true)
  (hb:c8 X.K fd ps []) (ha:DA X (a :: es) t) (hdb:(x == ("__debug__":Str))=false:=by decide) (he:starEach (a :: es) X.env=(false,eval a X.env) :: starEach es X.env:=by rfl) (hpl:(backTo pos (starEach es X.env)).any (·.1)=false:=by rfl) :
  DE X (.Call (.Name x p) (a :: es) [] pos) (jQ f t) :=
 PE.imp (eI F hr hg hm hk hb .nil pM ha hdb he hpl) fun σ H Q h=>by
  show upA X.K t σ H fun vs H1=>aU X.K f (vs++[]) H1 Q
  have q:=fL h
  simpa only [List.append_nil] using q
theorem aV {x:Str} {id:String} {p:Pos} (hc:bx X (.builtin id) (aU X.K f)) (hg:Gl X x) (hm:X.mg x=none) (hv:bootBuiltins x=some (.builtin id)) (ha:DA X (a :: es) t) (hn:x≠"__name__":=by decide) (hdb:(x == ("__debug__":Str))=false:=by decide)
  (he:starEach (a :: es) X.env=(false,eval a X.env) :: starEach es X.env:=by rfl) (hpl:(backTo pos (starEach es X.env)).any (·.1)=false:=by rfl):DE X (.Call (.Name x p) (a :: es) [] pos) (jQ f t) :=
 PE.imp (cI hc hg hm hv ha hn hdb he hpl) fun σ H Q h=>fL h
theorem di {x:Str} {T:String} {p:Pos} (hc:bx X (.type T) (aU X.K f)) (hg:Gl X x) (hm:X.mg x=none) (hv:bootBuiltins x=some (.type T)) (ha:DA X (a :: es) t) (hn:x≠"__name__":=by decide) (hdb:(x == ("__debug__":Str))=false:=by decide)
  (he:starEach (a :: es) X.env=(false,eval a X.env) :: starEach es X.env:=by rfl) (hpl:(backTo pos (starEach es X.env)).any (·.1)=false:=by rfl):DE X (.Call (.Name x p) (a :: es) [] pos) (jQ f t) :=
 PE.imp (gq hc hg hm hv ha hn hdb he hpl) fun σ H Q h=>fL h
end
def sg:TDS:=fun R δ=>R.nx δ
def dSeq (t u:TDS):TDS:=fun R δ=>t { R with nx:=u R } δ
def dRet (t:TDE):TDS:=fun R δ=>t δ (wd fun x δ1=>R.rt x δ1)
def dIf (c:TDT) (t u:TDS):TDS:=fun R δ=>c δ fun b δ1=>if b=true then t R δ1 else u R δ1
def dSet (i:Nat) (t:TDE):TDS:=fun R δ=>t δ (wd fun x δ1=>R.nx (δ1.set i (.dat x)))
def dAsg (t:TDE) (g:TDG):TDS:=fun R δ=>t δ (wd fun x δ1=>g x δ1 R.nx)
def nV (i:Nat):TDG:=fun x δ R=>R (δ.set i (.dat x))
def rN:TDGs:=fun ds δ R=>ds=[]∧R δ
def nq (t:TDG) (u:TDGs):TDGs:=fun ds δ R=>∃ x r,ds=x :: r∧t x δ fun δ1=>u r δ1 R
def tF (n:Nat) (t:TDGs):TDG:=fun d δ R=>∃ xs,d=.tup xs∧xs.length=n∧t xs δ R
def nC (c:TDT) (tb:TDS):TDS:=fun R δ=>∃ (I:En→Prop) (μ:En→Nat),I δ∧∀ δ,I δ→c δ fun b δ1 =>
 if b=true then tb { R with nx:=fun δ'=>I δ'∧μ δ' < μ δ,ct:=fun δ'=>I δ'∧μ δ' < μ δ,bk:=R.nx,tp:=False } δ1 else R.nx δ1
def gx (t:TDE) (g:TDG) (tb:TDS):TDS:=fun R δ=>t δ (wd fun d δ1=>∃ xs,d=.lst xs∧∃ I:Nat→En→Prop,I 0 δ1 ∧
 (∀ i x δ',xs[i]?=some x→I i δ'→g x δ' fun δ2=>tb { R with nx:=I (i + 1),ct:=I (i + 1),bk:=R.nx,tp:=False } δ2)∧∀ δ',I xs.length δ'→R.nx δ')
def tE (t:TDA) (g:TDG) (tb:TDS):TDS:=fun R δ=>t δ fun ds δ1=>∃ j:Int,ds=[.int j]∧-(2 ^ 62)≤j∧j < 2 ^ 62∧∃ I:Nat→En→Prop,I 0 δ1 ∧
 (∀ i δ',i < j.toNat→I i δ'→g (.int i) δ' fun δ2=>tb { R with nx:=I (i + 1),ct:=I (i + 1),bk:=R.nx,tp:=False } δ2)∧∀ δ',I j.toNat δ'→R.nx δ'
section
variable {X:Cx} {pos:Pos} {a b c e tg:Expr} {ta:TDE} {tA:TDT} {t u:TDS} {st:Stmt} {rest body:List Stmt} {g:TDG} {gs:TDGs} {tda:TDA}
theorem aE:DSs X [] sg:=PSs.imp gZ fun E σ H ⟨G,δ,P,R,s,h,k,_⟩=>k δ h σ H s
theorem ag (h1:DS X st t) (h2:DSs X rest u):DSs X (st :: rest) (dSeq t u) :=
 PSs.imp (bG h1 h2) fun E σ H ⟨G,δ,P,R,s,h,k1,k2,k3,k4⟩=>⟨G,δ,P,{ R with nx:=u R },s,h,fun δ' h' σ' H' s'=>⟨G,δ',P,R,s',h',k1,k2,k3,k4⟩,k2,k3,k4⟩
theorem aj (h1:DS X st t):DSs X [st] t:=dn h1
theorem av (he:DE X e ta):DS X (.Return (some e) pos) (dRet ta) :=
 PS.imp (i8 he) fun E σ H ⟨G,δ,P,R,s,h,_,k,_⟩=>up.mk s h fun x δ1 h1 v H1 s1=>k.1 x δ1 h1 v σ H1 s1
theorem bC {aa bb:List Stmt} (hc:DT X c tA) (ha:DSs X aa t) (hb:DSs X bb u):DS X (.If c aa bb pos) (dIf tA t u) :=
 PS.imp (qv hc ha hb) fun E σ H ⟨G,δ,P,R,s,h,k1,k2,k3,k4⟩=>⟨G,δ,P,_,s,h,fun b δ1 h1 H1 s1=>by
  cases b with
  | true=>exact⟨G,δ1,P,R,s1,h1,k1,k2,k3,k4⟩
  | false=>exact⟨G,δ1,P,R,s1,h1,k1,k2,k3,k4⟩⟩
theorem aD (i:Nat) {x:Str} {pos':Pos} (hN:X.N.Nodup) (he:DE X e ta) (hi:X.N[i]?=some x:=by rfl) (hx:Loc X.env.scope x:=by walk_at "v2") (hs:swapsWith e (some (.Name x pos')) pos.line X.env=pure false:=by rfl)
  (hf:X.fn x=true∨X.env.scope.names.lookup x=some .local :=by walk_at "v1"):DS X (.Assign [.Name x pos'] e pos) (dSet i ta) :=
 PS.imp (et hN hi hx he hs hf) fun E σ H ⟨G,δ,P,R,s,h,k,_⟩=>up.mk s h fun x δ1 h1 v H1 s1=>k _ h1 _ H1 (s1.set (by simp) fun p hp=>by simp [hp])
theorem k7 (he:DE X e ta) (hg:DG X tg g) (hs:swapsWithSole [tg] e pos.line X.env=pure false:=by rfl) (hw:swappedStores [tg] e X.env=pure none:=by rfl)
  (h1:(assignEach [tg] X.env).map (·.2)=[assign tg X.env]:=by rfl):DS X (.Assign [tg] e pos) (dAsg ta g) :=
 PS.imp (nP he hg hs hw h1) fun E σ H ⟨G,δ,P,R,s,h,k,_⟩=>up.mk s h fun x δ1 h1 v H1 s1=>⟨G,δ1,P,x,R.nx,s1,h1,k⟩
theorem aG (i:Nat) {x:Str} (hN:X.N.Nodup) (hi:X.N[i]?=some x:=by rfl) (hx:Loc X.env.scope x:=by walk_at "v2") (hf:X.fn x=true∨X.env.scope.names.lookup x=some .local :=by walk_at "v1") :
  DG X (.Name x pos) (nV i):=PG.imp (kI hN hi hx hf) fun v σ H Q ⟨G,δ,P,d,R,s,h,k⟩=>k _ h _ H (s.set (by simp) fun p hp=>by simp [hp])
theorem eM:DGs X [] rN:=PGs.imp qi fun vs σ H Q ⟨G,δ,P,ds,R,hl,s,⟨e,h⟩,k⟩=>by
 subst e
 have:vs=[]:=List.length_eq_zero_iff.mp hl.symm
 subst this
 exact⟨rfl,k δ h σ H s⟩
theorem bw {es:List Expr} (h1:DG X e g) (h2:DGs X es gs) (hs:(assignEach (e :: es) X.env).map (·.2)=assign e X.env :: (assignEach es X.env).map (·.2):=by rfl):DGs X (e :: es) (nq g gs) :=
 PGs.imp (m7 h1 h2 hs) fun vs σ H Q ⟨G,δ,P,ds,R,hl,s,⟨x,r,e,h⟩,k⟩=>by
  subst e
  cases vs with
  | nil=>cases hl
  | cons v vs =>
   refine⟨v,vs,rfl,G,δ,r.zip vs++P,x,_,s.sub fun p hp=>by simpa using hp,h,fun δ1 h1 σ1 H1 s1=>⟨G,δ1,P,r,R,Nat.succ.inj hl,s1,h1,k⟩⟩
theorem nr {es:List Expr} {kk n:Nat} (hc:X.calm=true) (h:DGs X es gs) (hn:(assignEach es X.env).length=n:=by rfl) (hst:(assignEach es X.env).findIdx? (·.1)=none:=by rfl):DG X (.Tuple es kk pos) (tF n gs) :=
 PG.imp (tq hc h hn hst) fun v σ H Q ⟨G,δ,P,d,R,s,⟨xs,e,hl,h⟩,k⟩=>by
  subst e
  obtain ⟨A,x⟩:=s
  have q:=x.pnd (.tup xs,v) (by simp)
  simp only [Rep] at q
  obtain ⟨a,vs,e,sq,r⟩:=q
  subst e
  refine⟨a,vs,rfl,sq,by rw [← Reps.length _ _ r];exact hl,G,δ,P,xs,R,Reps.length _ _ r,⟨A,?_⟩,h,k⟩
  exact⟨x.old,x.stay,x.m0,x.pm,x.new,x.thr,x.len,x.dat,x.own,x.inj,fun p hp=>by
   rcases uJ.mp hp with hp | hp
   ·obtain ⟨i,hi,e⟩:=List.mem_iff_getElem.mp hp
    have h1:i < xs.length:=by rw [List.length_zip] at hi;omega
    have h2:i < vs.length:=by rw [List.length_zip] at hi;omega
    obtain ⟨v',e',r'⟩:=Reps.get _ _ r i xs[i] (by simp [h1])
    have:p=(xs[i],vs[i]):=by rw [← e,List.getElem_zip]
    rw [this]
    rw [uZ h2] at e'
    cases e'
    exact r'
   ·exact x.pnd p (by simp [hp])⟩
theorem mJ (hp:PassesOwn (model X.prog X.w) X.A X.env X.xe) (hc:DT X c tA) (hb:DSs X body t):DS X (.While c body [] pos) (nC tA t) :=
 PS.imp (my hp hc hb) fun E σ H ⟨G,δ,P,R,s,⟨I,μ,i0,turn⟩,k1,k2,k3,k4⟩=>by
  refine⟨fun m σ H=>∃ δ,m=μ δ∧I δ∧S X.K G δ P σ H,⟨_,δ,rfl,i0,s⟩,?_⟩
  rintro m σ H ⟨δ,rfl,i,s⟩
  refine⟨G,δ,P,_,s,turn δ i,fun b δ1 h1 H1 s1=>?_⟩
  cases b with
  | false=>exact k1 δ1 h1 σ H1 s1
  | true =>
   refine⟨fun σ' H'=>∃ δ',(I δ'∧μ δ' < μ δ)∧S X.K G δ' P σ' H',fun σ' H' ⟨δ',⟨i',l⟩,s'⟩=>⟨_,l,δ',rfl,i',s'⟩,?_⟩
   exact⟨G,δ1,P,_,s1,h1,fun δ' h' σ' H' s'=>⟨δ',h',s'⟩,k2,k1,fun δ' h' σ' H' s'=>⟨δ',h',s'⟩,fun z=>z.elim⟩
theorem cS (hp:PassesOwn (model X.prog X.w) X.A X.env X.xe) (hc:X.calm=true) (hi:DE X e ta) (hg:DG X tg g) (hb:DSs X body t) (hs:∀ x,foldedSetIterable e X.env x=pure x:=by intro _;rfl):DS X (.For tg e body [] pos) (gx ta g t) :=
 PS.imp (ku hp hc (iq hi) hg hb hs) fun E σ H ⟨G,δ,P,R,s,h,k1,k2,k3,k4⟩=>up.mk s h fun d δ1 h1 v H1 s1=>by
  obtain ⟨xs,e,I,i0,turn,fin⟩:=h1
  subst e
  have hat:∀ δ σ H,S X.K G δ ((.lst xs,v) :: P) σ H→∃ a vs,v=.ref a∧SqL X.K H a vs∧vs.length=xs.length:=fun δ σ H ⟨A,x⟩=>by
   have q:=x.pnd (.lst xs,v) (by simp)
   simp only [Rep] at q
   obtain ⟨a,vs,e,_,l,r⟩:=q
   exact⟨a,vs,e,SqL.of l,(Reps.length _ _ r).symm⟩
  have hev:∃ a vs,v=.ref a∧SqL X.K H1 a vs∧vs.length=xs.length:=hat _ _ _ s1
  obtain ⟨a,vs0,rfl,hsq,hl0⟩:=hev
  refine⟨a,rfl,⟨vs0,hsq⟩,fun i m σ H=>m=xs.length - i∧i≤xs.length∧∃ δ,I i δ∧S X.K G δ ((.lst xs,.ref a) :: P) σ H,⟨xs.length,by simp,Nat.zero_le _,δ1,i0,s1⟩,?_⟩
  rintro i m σ H ⟨rfl,hi,δ',ii,s'⟩
  obtain ⟨A,x⟩:=id s'
  have q:=x.pnd (.lst xs,.ref a) (by simp)
  simp only [Rep] at q
  obtain ⟨a',vs,e,_,l,r⟩:=q
  cases e
  have l:SqL X.K H a vs:=SqL.of l
  have hl:xs.length=vs.length:=Reps.length _ _ r
  by_cases hlt:i < xs.length
  ·obtain ⟨v',e',r'⟩:=Reps.get _ _ r i xs[i] (by simp [hlt])
   refine .inr ⟨⟨vs,v',l,e'⟩,fun σ' H'=>∃ δ',I (i + 1) δ'∧S X.K G δ' ((.lst xs,.ref a) :: P) σ' H',fun σ' H' ⟨δ',p',s'⟩=>⟨xs.length - (i + 1),by omega,rfl,hlt,δ',p',s'⟩,fun y H' hy=>?_⟩
   obtain ⟨e,hy⟩:=hy
   subst e
   have:some y=some v':=(hy vs l).symm.trans e'
   cases this
   refine⟨G,δ',(.lst xs,.ref a) :: P,xs[i],_,⟨A,x.push r'⟩,turn i xs[i] δ' (by simp [hlt]) ii,fun δ2 h2 σ2 H2 s2=>?_⟩
   refine⟨G,δ2,(.lst xs,.ref a) :: P,_,s2,h2,fun δ3 h3 σ3 H3 s3=>⟨δ3,h3,s3⟩,⟨fun d δ3 h3 v3 σ3 H3 s3=>k2.1 d δ3 h3 v3 σ3 H3 (s3.sub fun p hp=>by
    rcases uG.mp hp with rfl | hp
    ·simp
    ·simp [hp]),k2.2.1,exs k2.2.2⟩,fun δ3 h3 σ3 H3 s3=>k1 δ3 h3 σ3 H3 (s3.sub fun p hp=>by simp [hp]),fun δ3 h3 σ3 H3 s3=>⟨δ3,h3,s3⟩,fun z=>z.elim⟩
  ·have e:i=xs.length:=by omega
   subst e
   exact .inl ⟨⟨vs,l,by omega⟩,k1 δ' (fin δ' ii) σ H (s'.sub fun p hp=>by simp [hp])⟩
theorem qe {p pos':Pos} (hp:PassesOwn (model X.prog X.w) X.A X.env X.xe) (hc:X.calm=true) (hgl:Gl X "range") (hm:X.mg "range"=none) (ha:DA X [a] tda) (hg:DG X tg g) (hb:DSs X body t)
  (hse:starEach [a] X.env=[(false,eval a X.env)]:=by rfl) (hs:∀ x,foldedSetIterable (.Call (.Name "range" p) [a] [] pos') X.env x=pure x:=by intro _;rfl) :
  DS X (.For tg (.Call (.Name "range" p) [a] [] pos') body [] pos) (tE tda g t) :=
 PS.imp (ku hp hc (gO hgl hm ha hse) hg hb hs) fun E σ H ⟨G,δ,P,R,s,h,k1,k2,k3,k4⟩=>⟨G,δ,P,_,s,h,fun ds δ1 h1 vs H1 hl s1=>by
  obtain ⟨j,e,h1,h2,I,i0,turn,fin⟩:=h1
  subst e
  match vs,hl with
  | [v],_ =>
   have q:v=.int j:=by
    obtain ⟨A,x⟩:=s1
    have q:=x.pnd (.int j,v) (by simp)
    simpa only [Rep] using q
   subst q
   have s2:S X.K G δ1 P σ H1:=s1.sub fun p hp=>by simp [hp]
   refine⟨j,rfl,h1,h2,l7 (lo:=0) (n:=j.toNat) (fun i σ H=>∃ δ,I i δ∧S X.K G δ P σ H) ⟨δ1,i0,s2⟩ (fun i σ H hi ⟨δ',ii,s'⟩=>?_) fun σ H ⟨δ',ii,s'⟩=>k1 δ' (fin δ' ii) σ H s'⟩
   refine⟨G,δ',P,.int (0 + i),_,s'.sc rfl,(by have q:=turn i δ' hi ii;rw [Int.zero_add];exact q),fun δ2 h2 σ2 H2 s2=>?_⟩
   exact⟨G,δ2,P,_,s2,h2,fun δ3 h3 σ3 H3 s3=>⟨δ3,h3,s3⟩,k2,k1,fun δ3 h3 σ3 H3 s3=>⟨δ3,h3,s3⟩,fun z=>z.elim⟩⟩
end
end DL
namespace DL
open PySem PySem.Spec PyProof.Rows L2
section
variable {K:PySem.W.Frag} {M:Addr→Prop} {H:Hp}
theorem qJ {a:D} {x:V} (h:Reps K M H [a] [x]):Rep K M H a x:=by
 unfold Reps at h
 obtain ⟨v,r,e,q,_⟩:=h
 cases e
 exact q
theorem bV {a b:D} {x y:V} (h:Reps K M H [a,b] [x,y]):Rep K M H a x∧Rep K M H b y:=by
 unfold Reps at h
 obtain ⟨v,r,e,q,h⟩:=h
 cases e
 exact⟨q,qJ h⟩
theorem aW {a:D} {vs:List V} (h:Reps K M H [a] vs):∃ x,vs=[x]∧Rep K M H a x:=by
 unfold Reps at h
 obtain ⟨v,r,e,q,h⟩:=h
 unfold Reps at h
 subst h
 exact⟨v,e,q⟩
theorem mZ {a b:D} {vs:List V} (h:Reps K M H [a,b] vs):∃ x y,vs=[x,y]∧Rep K M H a x∧Rep K M H b y:=by
 unfold Reps at h
 obtain ⟨v,r,e,q,h⟩:=h
 obtain ⟨y,e2,q2⟩:=aW h
 subst e2
 exact⟨v,y,e,q,q2⟩
theorem aH {i:Int} {v:V} (h:Rep K M H (.int i) v):v=.int i:=by unfold Rep at h;exact h
theorem fg {i:Bool} {v:V} (h:Rep K M H (.bl i) v):v=.bl i:=by unfold Rep at h;exact h
theorem ci {i:Str} {v:V} (h:Rep K M H (.str i) v):v=.str i:=by unfold Rep at h;exact h
end
def fI0 (g:Int→Int→D):List D→(D→Prop)→Prop:=fun ds R=>∃ i j,ds=[.int i,.int j]∧R (g i j)
def fI (C:Int→Int→Prop) (g:Int→Int→D):List D→(D→Prop)→Prop:=fun ds R=>∃ i j,ds=[.int i,.int j]∧C i j∧R (g i j)
def fU (g:Int→D):List D→(D→Prop)→Prop:=fun ds R=>∃ i,ds=[.int i]∧R (g i)
theorem rZ {g:Int→Int→D} {a b:Int} {R:D→Prop}:fI0 g [.int a,.int b] R↔R (g a b):=by
 unfold fI0
 constructor
 ·rintro ⟨i,j,e,r⟩;cases e;exact r
 ·exact fun r=>⟨a,b,rfl,r⟩
theorem tQ {C:Int→Int→Prop} {g:Int→Int→D} {a b:Int} {R:D→Prop}:fI C g [.int a,.int b] R↔C a b∧R (g a b):=by
 unfold fI
 constructor
 ·rintro ⟨i,j,e,r⟩;cases e;exact r
 ·exact fun r=>⟨a,b,rfl,r⟩
theorem uk {g:Int→D} {a:Int} {R:D→Prop}:fU g [.int a] R↔R (g a):=by
 unfold fU
 constructor
 ·rintro ⟨i,e,r⟩;cases e;exact r
 ·exact fun r=>⟨a,rfl,r⟩
def CFd (_ j:Int):Prop:=j≠0∧j.natAbs.log2 < 9000
def CNz (_ j:Int):Prop:=j≠0
section
variable {X:Cx}
theorem opI0 {f:Value→Value→Sem Value} {g':Int→Int→V} {g:Int→Int→D} (h:OpR X f (rI0 g')) (hs:∀ i j,sc (g i j)=some (g' i j)):OpR X f fun x y=>aU X.K (fI0 g) [x,y] :=
 OpR.imp h fun x y H Q ⟨M,ds,R,m,rs,⟨i,j,e,r⟩,k⟩=>by
  subst e
  obtain ⟨h1,h2⟩:=bV rs
  exact⟨i,j,aH h1,aH h2,k _ r _ H (Same.refl H) (Rep.sc (hs i j))⟩
theorem opI {f:Value→Value→Sem Value} {C C':Int→Int→Prop} {g':Int→Int→V} {g:Int→Int→D} (h:OpR X f (rI C' g')) (hs:∀ i j,sc (g i j)=some (g' i j)) (hc:∀ i j,C i j→C' i j):OpR X f fun x y=>aU X.K (fI C g) [x,y] :=
 OpR.imp h fun x y H Q ⟨M,ds,R,m,rs,⟨i,j,e,c,r⟩,k⟩=>by
  subst e
  obtain ⟨h1,h2⟩:=bV rs
  exact⟨i,j,aH h1,aH h2,hc i j c,k _ r _ H (Same.refl H) (Rep.sc (hs i j))⟩
theorem uu:OpR X (binaryOp .Add) fun x y=>aU X.K (fI0 fun i j=>.int (i + j)) [x,y]:=opI0 so fun _ _=>rfl
theorem pY:OpR X (binaryOp .Sub) fun x y=>aU X.K (fI0 fun i j=>.int (i - j)) [x,y]:=opI0 re fun _ _=>rfl
theorem pP:OpR X (binaryOp .Mult) (rI IntMulOk fun i j=>.int (i * j)):=L2.opI fun _ _ _ _ _ _ _ hc q=>mul_int q hc
theorem dY:OpR X (binaryOp .Mult) fun x y=>aU X.K (fI IntMulOk fun i j=>.int (i * j)) [x,y]:=opI pP (fun _ _=>rfl) fun _ _ h=>h
theorem mF:OpR X (binaryOp .FloorDiv) (rI CFd fun i j=>.int (i.fdiv j)):=L2.opI fun _ _ _ _ _ _ _ hc q=>floordiv_int hc.1 q (.inl (PyProof.noPylong_of_log2 hc.2))
theorem dI:OpR X (binaryOp .FloorDiv) fun x y=>aU X.K (fI CFd fun i j=>.int (i.fdiv j)) [x,y]:=opI mF (fun _ _=>rfl) fun _ _ h=>h
theorem cx:OpR X (binaryOp .Mod) fun x y=>aU X.K (fI CNz fun i j=>.int (i.fmod j)) [x,y]:=opI pq (fun _ _=>rfl) fun _ _ h=>h
theorem qR:OpR X (binaryOp .Pow) fun x y=>aU X.K (fI CPow fun i j=>.int (i ^ j.toNat)) [x,y]:=opI sY (fun _ _=>rfl) fun _ _ h=>h
theorem o_lt:OpR X (compareOp .Lt) fun x y=>aU X.K (fI0 fun i j=>.bl (decide (i < j))) [x,y]:=opI0 uo fun _ _=>rfl
theorem o_gt:OpR X (compareOp .Gt) fun x y=>aU X.K (fI0 fun i j=>.bl (decide (j < i))) [x,y]:=opI0 tX fun _ _=>rfl
theorem cM:UnR X (unaryOp .USub) fun x=>aU X.K (fU fun i=>.int (-i)) [x] :=
 UnR.imp rF fun x H Q ⟨M,ds,R,m,rs,⟨i,e,r⟩,k⟩=>by
  subst e
  exact⟨i,aH (qJ rs),k _ r _ H (Same.refl H) (Rep.sc rfl)⟩
theorem uz:bx X (.builtin "abs") (aU X.K (fU fun i=>.int (if i < 0 then -i else i))) :=
 bx.imp mW fun xs H Q ⟨M,ds,R,m,rs,⟨i,e,r⟩,k⟩=>by
  subst e
  obtain ⟨x,e,q⟩:=aW rs
  subst e
  exact⟨i,by rw [aH q],k _ r _ H (Same.refl H) (Rep.sc rfl)⟩
def fLen:List D→(D→Prop)→Prop
 | [.lst xs],R=>R (.int xs.length)
 | [.fz xs],R=>R (.int xs.length)
 | [.tup xs],R=>R (.int xs.length)
 | _,_=>False
theorem oM {d0:List D} {R:D→Prop} (h:fLen d0 R):(∃ (xs:List D),d0=[.lst xs]∧R (.int xs.length))∨(∃ (xs:List D),d0=[.fz xs]∧R (.int xs.length))∨(∃ (xs:List D),d0=[.tup xs]∧R (.int xs.length)):=by
 rcases d0 with _ | ⟨a,_ | ⟨b,l⟩⟩
 ·exact False.elim h
 ·cases a<;>first | exact False.elim h | exact .inl ⟨_,rfl,h⟩ | exact .inr (.inl ⟨_,rfl,h⟩) | exact .inr (.inr ⟨_,rfl,h⟩)
 ·cases a<;>exact False.elim h
theorem gG:bx X (.builtin "len") (aU X.K fLen) :=
 bx.imp dJ fun xs H Q ⟨M,ds,R,m,rs,h,k⟩=>by
  have fin:∀ n:Nat,R (.int n)→Q (.int n) H:=fun n r=>k _ r _ H (Same.refl H) (Rep.sc rfl)
  replace h:=oM h
  rcases h with ⟨_,rfl,h⟩ | ⟨_,rfl,h⟩ | ⟨_,rfl,h⟩
  ·obtain ⟨x,e,q⟩:=aW rs
   unfold Rep at q
   obtain ⟨a,vs,e2,_,l,r⟩:=q
   subst e e2
   exact⟨a,vs,rfl,.inl (SqL.of l),fin _ (by rw [← Reps.length _ _ r];exact h)⟩
  ·obtain ⟨x,e,q⟩:=aW rs
   unfold Rep at q
   obtain ⟨a,vs,e2,l,r⟩:=q
   subst e e2
   exact⟨a,vs,rfl,.inl l.seq,fin _ (by rw [← Reps.length _ _ r];exact h)⟩
  ·obtain ⟨x,e,q⟩:=aW rs
   unfold Rep at q
   obtain ⟨a,vs,e2,l,r⟩:=q
   subst e e2
   exact⟨a,vs,rfl,.inr l,fin _ (by rw [← Reps.length _ _ r];exact h)⟩
def fInt:List D→(D→Prop)→Prop
 | [.int i],R=>R (.int i)
 | [.bl b],R=>R (.int (if b then 1 else 0))
 | _,_=>False
theorem oW {d0:List D} {R:D→Prop} (h:fInt d0 R):(∃ (i:Int),d0=[.int i]∧R (.int i))∨(∃ (b:Bool),d0=[.bl b]∧R (.int (if b then 1 else 0))):=by
 rcases d0 with _ | ⟨a,_ | ⟨b,l⟩⟩
 ·exact False.elim h
 ·cases a<;>first | exact False.elim h | exact .inl ⟨_,rfl,h⟩ | exact .inr ⟨_,rfl,h⟩
 ·cases a<;>exact False.elim h
theorem sj:bx X (.type "int") (aU X.K fInt) :=
 bx.imp kW fun xs H Q ⟨M,ds,R,m,rs,h,k⟩=>by
  replace h:=oW h
  rcases h with ⟨_,rfl,h⟩ | ⟨_,rfl,h⟩
  ·obtain ⟨x,e,q⟩:=aW rs
   subst e
   exact .inl ⟨_,by rw [aH q],k _ h _ H (Same.refl H) (Rep.sc rfl)⟩
  ·obtain ⟨x,e,q⟩:=aW rs
   subst e
   exact .inr ⟨_,by rw [fg q],k _ h _ H (Same.refl H) (Rep.sc rfl)⟩
def fIx:List D→(D→Prop)→Prop
 | [.tup xs,.int i],R=>∃ v,atI xs i=some v∧R v
 | [.lst xs,.int i],R=>∃ v,atI xs i=some v∧R v
 | [.fz xs,.int i],R=>∃ v,atI xs i=some v∧R v
 | [.str z,.int i],R=>z.length≤9000∧∃ c,atI z.cps.toList i=some c∧R (.str ⟨#[c]⟩)
 | _,_=>False
theorem sF {d0:List D} {R:D→Prop} (h:fIx d0 R):(∃ (xs:List D) (i:Int),d0=[.tup xs,.int i]∧∃ v,atI xs i=some v∧R v)∨(∃ (xs:List D) (i:Int),d0=[.lst xs,.int i]∧∃ v,atI xs i=some v∧R v)∨(∃ (xs:List D) (i:Int),d0=[.fz xs,.int i]∧∃ v,atI xs i=some v∧R v)∨(∃ (z:Str) (i:Int),d0=[.str z,.int i]∧z.length≤9000∧∃ c,atI z.cps.toList i=some c∧R (.str ⟨#[c]⟩)):=by
 rcases d0 with _ | ⟨a,_ | ⟨b,_ | ⟨c,l⟩⟩⟩
 ·exact False.elim h
 ·cases a<;>exact False.elim h
 ·cases a<;>first | exact False.elim h | (cases b<;>first | exact False.elim h | exact .inl ⟨_,_,rfl,h⟩ | exact .inr (.inl ⟨_,_,rfl,h⟩) | exact .inr (.inr (.inl ⟨_,_,rfl,h⟩)) | exact .inr (.inr (.inr ⟨_,_,rfl,h⟩)))
 ·cases a<;>first | exact False.elim h | (cases b<;>exact False.elim h)
theorem kX {α β:Type} {xs:List α} {ys:List β} (h:xs.length=ys.length) {i:Int} {v:α} (e:atI xs i=some v):∃ j:Nat,xs[j]?=some v∧∀ w,ys[j]?=some w→atI ys i=some w:=by
 unfold atI at e ⊢
 rw [h] at e
 cases q:ixN ys.length i with
 | none=>rw [q] at e;cases e
 | some j=>rw [q] at e;exact⟨j,e,fun w z=>z⟩
theorem am:IxR X fun x y=>aU X.K fIx [x,y] :=
 IxR.imp sL fun x y H Q ⟨M,ds,R,m,rs,h,k⟩=>by
  have fin:∀ (xs:List D) (vs:List V) (i:Int) (d:D),Reps X.K M H xs vs→atI xs i=some d→R d→∃ v,atI vs i=some v∧Q v H:=fun xs vs i d r e q=>by
   obtain ⟨j,h1,h2⟩:=kX (Reps.length _ _ r) e
   obtain ⟨v,e',r'⟩:=Reps.get _ _ r j d h1
   exact⟨v,h2 v e',k d q v H (Same.refl H) r'⟩
  replace h:=sF h
  rcases h with ⟨_,_,rfl,h⟩ | ⟨_,_,rfl,h⟩ | ⟨_,_,rfl,h⟩ | ⟨_,_,rfl,h⟩
  ·obtain ⟨d,e,q⟩:=h
   obtain ⟨h1,h2⟩:=bV rs
   unfold Rep at h1
   obtain ⟨a,vs,e2,l,r⟩:=h1
   obtain ⟨v,e3,q3⟩:=fin _ _ _ _ r e q
   exact .inr (.inl ⟨a,vs,_,v,e2,aH h2,l,e3,q3⟩)
  ·obtain ⟨d,e,q⟩:=h
   obtain ⟨h1,h2⟩:=bV rs
   unfold Rep at h1
   obtain ⟨a,vs,e2,_,l,r⟩:=h1
   obtain ⟨v,e3,q3⟩:=fin _ _ _ _ r e q
   exact .inl ⟨a,vs,_,v,e2,aH h2,SqL.of l,e3,q3⟩
  ·obtain ⟨d,e,q⟩:=h
   obtain ⟨h1,h2⟩:=bV rs
   unfold Rep at h1
   obtain ⟨a,vs,e2,l,r⟩:=h1
   obtain ⟨v,e3,q3⟩:=fin _ _ _ _ r e q
   exact .inl ⟨a,vs,_,v,e2,aH h2,l.seq,e3,q3⟩
  ·obtain ⟨hz,c,e,q⟩:=h
   obtain ⟨h1,h2⟩:=bV rs
   exact .inr (.inr ⟨_,_,c,ci h1,aH h2,dh hz,e,k _ q _ H (Same.refl H) (Rep.sc rfl)⟩)
def fCat:List D→(D→Prop)→Prop
 | [.lst xs,.lst ys],R=>xs.length + ys.length≤9000∧R (.lst (xs++ys))
 | _,_=>False
theorem n6 {d0:List D} {R:D→Prop} (h:fCat d0 R):∃ (xs:List D) (ys:List D),d0=[.lst xs,.lst ys]∧xs.length + ys.length≤9000∧R (.lst (xs++ys)):=by
 rcases d0 with _ | ⟨a,_ | ⟨b,_ | ⟨c,l⟩⟩⟩
 ·exact False.elim h
 ·cases a<;>exact False.elim h
 ·cases a<;>first | exact False.elim h | (cases b<;>first | exact False.elim h | exact⟨_,_,rfl,h⟩)
 ·cases a<;>first | exact False.elim h | (cases b<;>exact False.elim h)
theorem uw:OpR X (binaryOp .Add) fun x y=>aU X.K fCat [x,y] :=
 OpR.imp rV fun x y H Q ⟨M,ds,R,m,rs,h,k⟩=>by
  replace h:=n6 h
  obtain ⟨_,_,rfl,h⟩:=h
  ·obtain ⟨hz,q⟩:=h
   obtain ⟨h1,h2⟩:=bV rs
   unfold Rep at h1 h2
   obtain ⟨a,vs,e,_,l,r⟩:=h1
   obtain ⟨b,ws,e',_,l',r'⟩:=h2
   refine⟨a,b,vs,ws,e,e',l,l',dh (by rw [← Reps.length _ _ r,← Reps.length _ _ r'];exact hz),fun p hp=>k _ q _ _ (al hp _) ?_⟩
   unfold Rep
   exact⟨p,vs++ws,rfl,fun z=>m p z hp,ak,Reps.kp (Kp.of_same (al hp _)) _ _ (Reps.append _ _ _ _ r r')⟩
def cut {α:Type} (xs:List α) (lo hi:Option Int):List α:=(xs.drop (HT.sIx xs.length 0 lo)).take (HT.sIx xs.length xs.length hi - HT.sIx xs.length 0 lo)
abbrev TDO:=En→(Option Int→En→Prop)→Prop
inductive UpO (K:PySem.W.Frag) (t:TDO) (σ:L2.St) (H:Hp) (Q:Option Int→Hp→Prop):Prop
 | mk (G:Gf) (δ:En) (P:List (D×V)) (R:Option Int→En→Prop) (s:S K G δ P σ H) (h:t δ R) (k:∀ o δ',R o δ'→∀ H',S K G δ' P σ H'→Q o H')
def upO (K:PySem.W.Frag) (t:TDO):TO:=UpO K t
def DO (X:Cx) (e:Option Expr) (t:TDO):Prop:=PO X e (upO X.K t)
def ky:TDO:=fun δ R=>R none δ
def qL (t:TDE):TDO:=fun δ R=>t δ (wd fun x δ1=>∃ i,x=.int i∧R (some i) δ1)
theorem PO.imp {e:Option Expr} {t t':TO} (h:PO X e t) (i:∀ σ H Q,t' σ H Q→t σ H Q):PO X e t':=fun pins s σ H Q I q=>h pins s σ H Q I (i σ H Q q)
theorem iD:DO X none ky:=PO.imp pi fun σ H Q ⟨G,δ,P,R,s,h,k⟩=>k none δ h H s
theorem cU {e:Expr} {te:TDE} (h:DE X e te):DO X (some e) (qL te):=PO.imp (qp h) fun σ H Q ⟨G,δ,P,R,s,h,k⟩=>up.mk s h fun x δ1 h1 v H1 s1=>by
 obtain ⟨i,e,r⟩:=h1
 subst e
 obtain ⟨A,q⟩:=id s1
 exact⟨i,aH (q.pnd (.int i,v) (by simp)),k _ δ1 r H1 (s1.sub fun p hp=>by simp [hp])⟩
def fSl:D→Option Int→Option Int→(D→Prop)→Prop
 | .lst xs,lo,hi,R=>R (.lst (cut xs lo hi))
 | .fz xs,lo,hi,R=>R (.lst (cut xs lo hi))
 | .tup xs,lo,hi,R=>¬ (HT.sIx xs.length 0 lo=0∧HT.sIx xs.length xs.length hi=xs.length)∧R (.tup (cut xs lo hi))
 | _,_,_,_=>False
def dSl (te:TDE) (tl th:TDO):TDE:=fun δ R=>te δ (wd fun x δ1=>tl δ1 fun l δ2=>th δ2 fun u δ3=>fSl x l u fun d=>R (.d d) δ3)
theorem Reps.cut {K:PySem.W.Frag} {M:Addr→Prop} {H:Hp} {ds:List D} {vs:List V} (lo hi:Option Int) (r:Reps K M H ds vs):Reps K M H (DL.cut ds lo hi) (cutV vs lo hi):=by
 unfold DL.cut cutV
 rw [Reps.length _ _ r]
 exact Reps.take _ _ _ (Reps.drop _ _ _ r)
theorem gJ {e:Expr} {te:TDE} {lo hi:Option Expr} {tl th:TDO} {p2 pos:Pos} (he:DE X e te) (hl:DO X lo tl) (hu:DO X hi th):DE X (.Subscript e (.Slice lo hi none p2) pos) (dSl te tl th) :=
 PE.imp (nc (pE.or rb) he hl hu) fun σ H Q ⟨G,δ,P,R,s,h,k,_⟩=>up.mk s h fun x δ1 h1 v H1 s1=>⟨G,δ1,(x,v) :: P,_,s1,h1,fun l δ2 h2 H2 s2=>⟨G,δ2,(x,v) :: P,_,s2,h2,fun u δ3 h3 H3 s3=>by
  obtain ⟨A,q⟩:=id s3
  have r:=q.pnd (x,v) (by simp)
  cases x with
  | lst xs =>
   have h3:R (.d (.lst (cut xs l u))) δ3:=h3
   simp only [Rep] at r
   obtain ⟨a,vs,e,_,sq,r⟩:=r
   refine .inl ⟨a,vs,e,SqL.of sq,fun p hp=>?_⟩
   have x2:=(q.same (al hp (.lst (cutV vs l u))))
   refine k _ δ3 h3 (.ref p) _ ⟨A,(x2.sub (P':=P) fun p hp=>uB _ hp).push ?_⟩
   unfold Rep
   exact⟨p,_,rfl,fun z=>q.mem p z hp,ak,Reps.kp (Kp.of_same (al hp _)) _ _ (Reps.cut l u r)⟩
  | fz xs =>
   have h3:R (.d (.lst (cut xs l u))) δ3:=h3
   simp only [Rep] at r
   obtain ⟨a,vs,e,sq,r⟩:=r
   refine .inl ⟨a,vs,e,sq.seq,fun p hp=>?_⟩
   have x2:=(q.same (al hp (.lst (cutV vs l u))))
   refine k _ δ3 h3 (.ref p) _ ⟨A,(x2.sub (P':=P) fun p hp=>uB _ hp).push ?_⟩
   unfold Rep
   exact⟨p,_,rfl,fun z=>q.mem p z hp,ak,Reps.kp (Kp.of_same (al hp _)) _ _ (Reps.cut l u r)⟩
  | tup xs =>
   have h3:¬ (HT.sIx xs.length 0 l=0∧HT.sIx xs.length xs.length u=xs.length)∧R (.d (.tup (cut xs l u))) δ3:=h3
   simp only [Rep] at r
   obtain ⟨a,vs,e,sq,r⟩:=r
   obtain ⟨nf,h3⟩:=h3
   refine .inr ⟨a,vs,e,sq,by rw [← Reps.length _ _ r];exact nf,fun p hp=>?_⟩
   have x2:=(q.same (al hp (.tup (cutV vs l u))))
   refine k _ δ3 h3 (.ref p) _ ⟨A,(x2.sub (P':=P) fun p hp=>uB _ hp).push ?_⟩
   unfold Rep
   exact⟨p,_,rfl,SqT.of ak,Reps.kp (Kp.of_same (al hp _)) _ _ (Reps.cut l u r)⟩
  | _=>exact (show False from h3).elim⟩⟩
end
end DL
namespace DL
open PySem PySem.Spec PyProof.Rows L2
def cn (N:List Str) (ds:List D):En:=ds.map Sl.dat++List.replicate (N.length - ds.length) Sl.no
theorem kH {K:PySem.W.Frag} {f:List D→(D→Prop)→Prop} {vs:List V} {H:Hp} {Q:VK} {n:Nat} (h:aU K f vs H Q) (len:∀ ds R,f ds R→ds.length=n):vs.length=n:=by
 obtain ⟨M,ds,R,m,rs,hf,k⟩:=h
 rw [← Reps.length _ _ rs]
 exact len ds R hf
theorem hZ {K:PySem.W.Frag} {M:Addr→Prop} {ds:List D} {vs:List V} {H:Hp} (N:List Str) (m:∀ b,M b→H b≠none) (rs:Reps K M H ds vs):S K ⟨M,H,fun _=>False⟩ (cn N ds) [] (L2.start N vs) H:=by
 have hl:=Reps.length _ _ rs
 refine⟨fun _=>False,fun b o e _=>e,fun b e=>e,m,fun b h=>h.elim,fun b h=>h.elim,fun b h=>h.elim,?_,fun i d e=>?_,fun i a d e=>?_,fun i j a d e h1 h2=>?_,fun p hp=>(nomatch hp)⟩
 ·unfold cn L2.start
  rw [uK,uK,uA,uA,uS,uS,hl]
 ·unfold cn at e
  unfold L2.start
  by_cases hi:i < ds.length
  ·rw [uV (by rw [uA];exact hi),uN] at e
   cases hd:ds[i]? with
   | none=>rw [hd] at e;cases e
   | some d' =>
    rw [hd] at e
    cases e
    obtain ⟨v,ev,rv⟩:=Reps.get _ _ rs i d hd
    refine⟨v,?_,Rep.more (fun b z=>.inl (z.elim id fun q=>q.elim)) _ _ rv⟩
    rw [uV (by rw [uA];omega),uN,ev]
    rfl
  ·rw [uU (by rw [uA];omega),List.getElem?_replicate] at e
   split at e<;>cases e
 all_goals
  unfold cn at *
  exfalso
 ·by_cases hi:i < ds.length
  ·rw [uV (by rw [uA];exact hi),uN] at e
   cases hd:ds[i]? with
   | none=>rw [hd] at e;cases e
   | some d'=>rw [hd] at e;cases e
  ·rw [uU (by rw [uA];omega),List.getElem?_replicate] at e
   split at e<;>cases e
 ·by_cases hi:i < ds.length
  ·rw [uV (by rw [uA];exact hi),uN] at h1
   cases hd:ds[i]? with
   | none=>rw [hd] at h1;cases h1
   | some d'=>rw [hd] at h1;cases h1
  ·rw [uU (by rw [uA];omega),List.getElem?_replicate] at h1
   split at h1<;>cases h1
structure Fd (K:PySem.W.Frag) (mg:Str→Option Value) (x:Str) (st:Stmt) (ps:List Str):Prop where
 ex:∃ (a:Addr) (fd:FuncData),Fun K x x st a fd∧c8 K fd ps []∧mg x=some (.ref a)
structure Cal (P:Program) (w:World) (K:PySem.W.Frag) (mg:Str→Option Value) (base:Heap) (k:Nat) (x:Str) (ps:List Str) (sp:Sp):Prop where
 ex:∃ (a:Addr) (fd:FuncData),FnOk P w K mg base CX0 k a fd ps sp∧c8 K fd ps []∧PySem.W.keepIn K (.ref a)=true∧mg x=some (.ref a)
section
variable {P:Program} {w:World} {K:PySem.W.Frag} {mg:Str→Option Value} {base:Heap}
theorem Cal.mono {j k:Nat} {x:Str} {ps:List Str} {sp:Sp} (C:Cal P w K mg base j x ps sp) (h:j≤k):Cal P w K mg base k x ps sp:=by
 obtain ⟨a,fd,F,b,kp,m⟩:=C.ex
 exact⟨a,fd,F.mono h,b,kp,m⟩
theorem rP {x:Str} {st:Stmt} {N ps:List Str} {k:Nat} {a:Addr} {fd:FuncData} {f:List D→(D→Prop)→Prop} (Fu:Fun K x x st a fd) (Sc:ar N ps (ah st)) (len:∀ ds R,f ds R→ds.length=ps.length)
    (hbody:∀ (cdv:Value) (A:Around) (outer:List Env) (s:Shared) (H:Hp) (E:XK) (ds:List D) (R:D→Prop),Room k (A.deeper (envOfC x (ah st) s.heap.objs.size a cdv))→f ds R →
      ∃ t,DSs (cxOf CX0 P w K mg base N x (ah st) a cdv A outer s H E).nox (aM st) t∧t { nx:=fun _=>R .non,rt:=fun d _=>R d,ro:=R } (cn N ds)) :
    FnOk P w K mg base CX0 (k + 1) a fd ps (spD K f):=by
  refine Fu.ok Sc (fun vs H Q E h=>kH h len) (fun cdv A outer s H vs Q E hr h=>?_)
  obtain ⟨M,ds,R,hm,rs,hf,hk⟩:=h
  obtain ⟨t,ht,hq⟩:=hbody cdv A outer s H E ds R hr hf
  refine⟨_,ht,⟨M,H,fun _=>False⟩,cn N ds,[],_,hZ N hm rs,hq,fun δ' r σ' H' ⟨A',x⟩=>?_,⟨fun d δ' r v σ' H' ⟨A',x⟩=>?_,fun d r a H' ⟨o1,o2,o3,o4⟩=>hk d r (.ref a) H' (fun b o e=>o1 b o e id) (o4.rep o3 fun b z=>.inl z),fun _ _ _ z=>z.elim⟩,fun _ h=>h.elim,fun _ h=>h.elim,fun z=>z.elim⟩
  · exact hk .non r .non H' (fun b o e=>x.old b o e id) (by unfold Rep;rfl)
  · exact hk d r v H' (fun b o e=>x.old b o e id) (Rep.more (fun b z=>.inl (.inl z)) _ _ (x.pnd (d,v) (by simp)))
theorem fn_D {x:Str} {st:Stmt} {N ps:List Str} {k:Nat} {f:List D→(D→Prop)→Prop} (F:Fd K mg x st ps) (Sc:ar N ps (ah st)) (len:∀ ds R,f ds R→ds.length=ps.length)
    (hbody:∀ (a:Addr) (cdv:Value) (A:Around) (outer:List Env) (s:Shared) (H:Hp) (E:XK) (ds:List D) (R:D→Prop),Room k (A.deeper (envOfC x (ah st) s.heap.objs.size a cdv))→f ds R →
      ∃ t,DSs (cxOf CX0 P w K mg base N x (ah st) a cdv A outer s H E).nox (aM st) t∧t { nx:=fun _=>R .non,rt:=fun d _=>R d,ro:=R } (cn N ds)) :
    Cal P w K mg base (k + 1) x ps (spD K f):=by
  obtain ⟨a,fd,Fu,b,m⟩:=F.ex
  exact⟨a,fd,rP Fu Sc len (hbody a),b,Fu.kp,m⟩
theorem ax {X:Cx} {a:Expr} {es:List Expr} {t:TDA} {f:List D→(D→Prop)→Prop} {x:Str} {k:Nat} {ps:List Str} {p pos:Pos} (C:Cal X.prog X.w X.K X.mg X.base k x ps (spD X.K f)) (hr:Room k X.A) (hg:Gl X x) (ha:DA X (a :: es) t)
  (hdb:(x == ("__debug__":Str))=false:=by decide) (he:starEach (a :: es) X.env=(false,eval a X.env) :: starEach es X.env:=by rfl) (hpl:(backTo pos (starEach es X.env)).any (·.1)=false:=by rfl) :
  DE X (.Call (.Name x p) (a :: es) [] pos) (jQ f t):=by
 obtain ⟨g,fd,F,b,kp,m⟩:=C.ex
 exact pQ F hr hg m kp b ha hdb he hpl
def pD (K:PySem.W.Frag):Sp:=fun vs H Q _=>∃ (a:Addr) (ns:List Int),vs=[.ref a]∧SqL K H a (ns.map V.int)∧Only H∧ns.length≤63∧(∀ n∈ns,Builtin.Int.intBits n≤1048576)∧∀ H',Q (.bl true) H'
def fLaw:List D→(D→Prop)→Prop:=fun ds R=>∃ ns:List Int,ds=[.fz (ns.map D.int)]∧ns.length≤63∧(∀ n∈ns,Builtin.Int.intBits n≤1048576)∧R (.bl true)
theorem sv {k:Nat} {ps:List Str} {a:Addr} {fd:FuncData} (F:FnOk P w K mg base CX0 k a fd ps (spD K fLaw)):FnOk P w K mg base CX0 k a fd ps (pD K) :=
 F.imp fun vs H Q E ⟨l,ns,e,sq,on,h63,hb,q⟩=>by
  subst e
  refine⟨fun _=>False,[.fz (ns.map D.int)],fun d=>d=.bl true,fun _ h=>h.elim,Reps.one ?_,⟨ns,rfl,h63,hb,rfl⟩,fun d e v H' _ r=>?_⟩
  ·unfold Rep
   refine⟨l,ns.map V.int,rfl,?_,Reps.ints ns⟩
   rcases sq with (h | ⟨o,h⟩) | h
   ·rcases on l with z | ⟨o,xs,z⟩
    ·rw [z] at h;cases h
    ·rw [z] at h;cases h
   ·exact .inl ⟨o,h⟩
   ·exact .inr (.inr h)
  ·subst e
   rw [fg r]
   exact q H'
end
end DL
namespace DLH
open PySem PySem.W PySem.Calls PyProof.Rows
theorem eh {ns:List Int} (h:WData.layableAll [.list (ns.map .int)]=true):∀ n∈ns,Builtin.Int.intBits n≤1048576:=fun n hn=>by
 have h1:=layableW_arg h _ (uP.mpr rfl)
 have h2:=layableW_item h1 (.int n) (uC.mpr ⟨n,hn,rfl⟩)
 have h3:=(layableW_iff.mp h2).2.2
 simpa only [WData.weight,Builtin.Int.intBits] using h3
theorem attach_callB {l:OpenLaw} {n:Nat} {q:Program} {loose:List Str} {XP:(Str→Option Value)→Heap→Prop} {YP:World→Heap→Prop} {d:DefRec}
    (hn:l.most=some n) (hdf:d.params.defaults=[])
    (call:∀ (w:World) (s₀ s₁:Shared) (mg mb:Str→Option Value) (fa:Addr) (o:Obj) (pm cd doc:Value) (a:Addr) (vs:List Value) (ns:List Int),
      Ground q loose [] XP w s₀ mg mb s₁.heap→YP w s₁.heap →
      s₁.heap.get? fa=some o→o.data=.func (docDef d.name d.params d.body d.scope pm cd doc)→s₁.heap.CodeRec cd d.name→mg d.name=some (.ref fa) →
      s₁.heap.get? a=some { cls:=.type "list",data:=.seq vs.toArray }→IntsAre vs ns→ns.length≤n→(∀ i∈ns,Builtin.Int.intBits i≤1048576)→s₁.gens=#[] →
      codeAny (model l.prog w) callerA (.call (.ref fa) ⟨[.ref a],[]⟩) (fun r s'=>r=.ok (.ret (.bool true))∧OldK s₁.heap s'.heap∧s'.os=s₁.os∧AllBare s'.gens) s₁) :
    WalkO q loose XP YP l.row.toRowW d [] (fun f vs=>PySem.call f vs):=by
  intro w s₀ s₁ mg mb G Y fa o pm cd doc dV kV ho hd hcd hD hmg hg args vals as hpre hlay hrd hwl hlo
  obtain rfl:dV=.none:=Dflts.none hD hdf
  obtain rfl:kV=.none:=Dflts.noKw hD
  obtain ⟨a,vs,ns,rfl,rfl,hobj,hints,hlen⟩:=Att.script_of hn hpre hwl
  refine enter_call (codeAny_mono (call w s₀ s₁ mg mb fa o pm cd doc a vs ns G Y ho (fd_plain hd) hcd hmg hobj hints hlen (eh hlay) hg) fun r s' hq=>?_)
  obtain ⟨rfl,h2,h3,h4⟩:=hq
  exact⟨.inl ⟨.bool true,.bool true,[],rfl,fun _=>rfl,.bool true,Att.post_true l _,fun _=>⟨List.Pairwise.nil,fun _ hm=>(nomatch hm)⟩⟩,h2,h3,h4⟩
end DLH
namespace DL
open PySem PySem.Spec PyProof.Rows L2
theorem walkB {l:PySem.W.OpenLaw} {k:Nat} {q:Program} {loose:List Str} {XP:(Str→Option Value)→Heap→Prop} {YP:World→Heap→Prop} {d:DefRec} {K:Params→PySem.W.Frag} {x:Str}
    (hn:l.most=some 63) (hdf:d.params.defaults=[]) (hr:Room k PySem.callerA) (hY:∀ (w:World) (h:Heap),YP w h→(K w.params).In h)
    (F:∀ (w:World) (mg:Str→Option Value) (fa:Addr) (h:Heap),(K w.params).In h→h.Ns mainGlobals mg→mg d.name=some (.ref fa) →
      ∃ fd:FuncData,(∀ (s:Shared) (u:Value),BindsTo s fd ⟨[u],[]⟩ [(x,u)])∧∀ base:Heap,(K w.params).In base→base.Ns mainGlobals mg→FnOk l.prog w (K w.params) mg base CX0 k fa fd [x] (pD (K w.params))) :
    PySem.W.WalkO q loose XP YP l.row.toRowW d [] (fun f vs=>PySem.call f vs):=by
  refine DLH.attach_callB hn hdf fun w s₀ s₁ mg mb fa o pm cd doc a vs ns G Y ho hd hcd hmg hobj hints hlen hbits hg=>?_
  have KX:=hY w _ Y
  obtain ⟨fd,hb,hF⟩:=F w mg fa _ KX G.T.g hmg
  exact me KX G.T.g G.T.b G.T.builtins G.T.nolimit hg hobj hints (uD hlen (by decide)) hr hF hb (fun H hO hS=>⟨a,ns,rfl,hS,hO,hlen,hbits,fun _=>rfl⟩) fun H e s' z=>z
end DL
namespace DL
open PySem PySem.Spec PyProof.Rows L2
def kG (ifs:List Expr) (env:Env):Sem Bool:=forIn ifs true fun c r=>if r=true then do let ok←isTrue c env (eval c env);pure (ForInStep.yield ok) else pure (ForInStep.yield r)
def PF (X:Cx) (ifs:List Expr) (t:TT):Prop :=
 ∀ (pins:List (Addr×Obj)) (s:Shared) (σ:L2.St) (H:Hp) (Q:Bool→Hp→Prop),Inv X pins σ H s→t σ H Q→wpAny (model X.prog X.w) X.A (kG ifs X.env) (TP X pins σ Q) X.xe s
theorem rD {X:Cx}:PF X [] (fun _ H Q=>Q true H):=fun _ _ _ H _ I h=>wpAny_tests_nil ⟨H,I,h⟩
theorem rR {X:Cx} {c:Expr} {t:TT} (h:PT X c t):PF X [c] t:=fun pins s σ H Q I q=>wpAny_tests_one (h pins s σ H Q I q)
theorem cK {prog:Program} {w:World} {A:Around} {R:Result→Shared→Prop} {s:Shared} {elt target iter:Expr} {ifs:List Expr} {scope:Scope} {pos:Pos} {it acc:Value} {env:Env} (I:Nat→Shared→Prop)
    (turn:∀ n s,I n s→wpAny (model prog w) A (pyNext it) (fun r s₁=>match r with
      | none=>R (.ok .next) s₁
      | some v=>wpAny (model prog w) A (letOwnedTupleGo target it v) (fun _ s₁'=>wpAny (model prog w) A (assign target env v) (fun _ s₂ =>
          wpAny (model prog w) A (kG ifs env) (fun ok s₃ =>
            if ok=true then wpAny (model prog w) A (eval elt env) (fun x s₄ =>
              wpAny (model prog w) A (call (.builtin "list.append") [acc,x]) (fun _ s₅=>∃ m,m < n∧I m s₅) (fun _ _=>False) s₄) (fun _ _=>False) s₃
            else ∃ m,m < n∧I m s₃) (fun _ _=>False) s₂) (fun _ _=>False) s₁') (fun _ _=>False) s₁) (fun _ _=>False) s)
    (n:Nat) (h:I n s) :
    codeAny (model prog w) A (.compLoop (.ListComp elt [⟨target,iter,ifs,0⟩] scope pos) 0 it acc env) R s:=by
  refine codeAny_loop rfl I (fun n s hI=>?_) n h
  show wpAny _ A ((compTurn (.ListComp elt [⟨target,iter,ifs,0⟩] scope pos) 0 it acc env).onRaise (fun x=>do noteFrame x env;theTreesLotGoes x)) _ _ s
  refine wpAny_noted ?_
  rw [compTurn_list]
  refine wpAny_bind (wpAny_standAt (wpAny_bind (wpAny_mono (turn n s hI) (fun r s₁ h₁=>?_) fun _ _ h'=>h'.elim)))
  cases r with
  | none=>exact wpAny_pure h₁
  | some v =>
    refine wpAny_bind (wpAny_mono h₁ (fun _ s₁' h₁'=>?_) fun _ _ h'=>h'.elim)
    refine wpAny_bind (wpAny_mono h₁' (fun _ s₂ h₂=>wpAny_bind (wpAny_mono h₂ (fun ok s₃ h₃=>?_) fun _ _ h'=>h'.elim)) fun _ _ h'=>h'.elim)
    cases ok with
    | false=>exact wpAny_pure ⟨rfl,h₃⟩
    | true =>
      exact wpAny_bind (wpAny_bind (wpAny_mono h₃ (fun x s₄ h₄=>wpAny_bind (wpAny_mono h₄ (fun _ s₅ h₅=>wpAny_pure (wpAny_pure ⟨rfl,h₅⟩)) fun _ _ h'=>h'.elim)) fun _ _ h'=>h'.elim))
def fe (X:Cx) (N':List Str) (scope:Scope) (cl:List (Str×Addr)) (s2:Shared) (H2:Hp) (C:Addr) (fp:List Addr) (pn:List (Addr×Obj)):Cx where
 prog:=X.prog
 w:=X.w
 K:=X.K
 mg:=X.mg
 base:=X.base
 A:=X.A
 N:=N'
 s₀:=s2
 H₀:=H2
 env:=compEnvC scope cl C X.env
 outer:=X.stack
 stack:=X.stack
 ex:=fp
 fn:=fun _=>false
 calm:=X.calm
 pn:=pn
 xe:=fun _ _=>False
def capS (nt:Nat) (caps:List (Nat×Str)) (σ:L2.St):L2.St:=List.replicate nt none++caps.map fun p=>(σ[p.1]?).join
def qX (wi:TI) (nt:Nat) (caps:List (Nat×Str)) (g:TG) (tc:TT) (te:TE):TE:=fun σ H Q=>wi σ H fun J H1=>∀ p,H1 p=none →
 ∃ W:Nat→Nat→List V→L2.St→Hp→Prop,(∃ m,W 0 m [] (capS nt caps σ) (upd H1 p (.lst [])))∧∀ i m xs σ' H',W i m xs σ' H'→(J.stop i H'∧Q (.ref p) H')∨(J.go i H'∧∀ x H2,J.yld i H' x H2 →
  g x σ' H2 fun σ2 H3=>tc σ2 H3 fun b H4=>if b=true then te σ2 H4 fun y H5=>H5 p=some (.lst xs)∧xs.length < sizeLine∧∃ m',m' < m∧W (i + 1) m' (xs++[y]) σ2 (upd H5 p (.lst (xs++[y]))) else ∃ m',m' < m∧W (i + 1) m' xs σ2 H4)
theorem mU {X:Cx} {elt tgt iter:Expr} {ifs:List Expr} {scope:Scope} {pos:Pos} {wi:TI} {cl:List (Str×Addr)} (tn:List Str) (caps:List (Nat×Str)) {g:TG} {tc:TT} {te:TE}
    (hcalm:X.calm=true) (hclos:closureFor scope X.env=pure cl) (hcell:∀ y∈scope.names,y.2≠.cell) (hkind:scope.kind=.function) (hnames:∀ y∈scope.names,y.2=.local→scope.names.lookup y.1=some .local)
    (hcl:∀ x c,cl.lookup x=some c→X.env.cells.lookup x=some c) (hhas:∀ x,((relabel scope X.env).names.lookup x=some .cell∨(relabel scope X.env).names.lookup x=some .free)→∃ c,cl.lookup x=some c)
    (hcap:∀ p∈caps,X.N[p.1]?=some p.2∧X.env.scope.names.lookup p.2=some .cell∧((relabel scope X.env).names.lookup p.2=some .cell∨(relabel scope X.env).names.lookup p.2=some .free))
    (hi:PI X.nox tgt iter wi)
    (hb:∀ s2 H2 C fp pn,PG (fe X (tn++caps.map (·.2)) scope cl s2 H2 C fp pn) tgt g∧PF (fe X (tn++caps.map (·.2)) scope cl s2 H2 C fp pn) ifs tc∧PE (fe X (tn++caps.map (·.2)) scope cl s2 H2 C fp pn) elt te)
    (hs:∀ x,foldedSetIterable iter X.env x=pure x:=by intro _;rfl)
    {posF:Pos} {use:Option (Value→Sem Unit)} {Qf:Value→Shared→Prop} (pins:List (Addr×Obj)) (s:Shared) (σ:L2.St) (H:Hp) (Q:VK) (I:Inv X.nox pins σ H s) (h:qX wi tn.length caps g tc te σ H Q)
    (fin:∀ p C m4 H3 s4,Inv X.nox pins σ H3 s4→s4.heap.Ns C m4→FpOk X.nox pins H3 C→Q (.ref p) H3→compPost (model X.prog X.w) X.A (fun _ _=>False) use Qf (.ref p) C (.ok .next) s4) :
    wpAny (model X.prog X.w) X.A (comprehension (.ListComp elt [⟨tgt,iter,ifs,0⟩] scope pos) scope X.env posF (newList []) false (eval iter X.env) use) Qf (fun _ _=>False) s:=by
  refine wpAny_comprehension_free (use:=use) rfl hs hclos hkind hnames (wpAny_mono (hi pins s σ H _ I h) (fun x s₁ h₁=>wpAny_mono h₁ (fun itv s₂ h₂=>?_) fun _ _ e=>e) fun _ _ e=>e)
  obtain ⟨it,fp,tnr,J,H1,rfl,I1,T,st,hfp,q⟩:=h₂
  refine wpAny_newObj_type (wpAny_newFunctionEnv hcell (by intro y hy;simp at hy) (fun h₁ hns₁ hsb₁=>?_) hkind)
  dsimp only at hns₁ hsb₁ ⊢
  generalize hH2:s₂.heap.push { cls:=.type "list",dict:=none,data:=.seq ([]:List Value).toArray }=Hq at hns₁ hsb₁ ⊢
  have hC:Hq.objs.size=s₂.heap.objs.size + 1:=by rw [← hH2,Heap.size_push]
  generalize hCe:Hq.objs.size=C at hns₁ hsb₁ hC ⊢
  generalize hpe:s₂.heap.objs.size=p at hC ⊢
  obtain ⟨m1,hns₁⟩:∃ m,h₁.Ns C m:=⟨_,hns₁⟩
  have hpC:p≠C:=Nat.ne_of_lt (by rw [hC];exact Nat.lt_succ_self _)
  have hbs:∀ b,b < s₂.heap.objs.size→b≠C∧b≠p:=fun b hb=>⟨Nat.ne_of_lt (by rw [hC,← hpe];exact Nat.lt_succ_of_lt hb),Nat.ne_of_lt (by rw [← hpe];exact hb)⟩
  have hple:s₂.heap.objs.size≤p:=Nat.le_of_eq hpe
  have hCle:s₂.heap.objs.size≤C:=by rw [hC,← hpe];exact Nat.le_succ _
  have old:∀ b o,s₂.heap.get? b=some o→h₁.get? b=some o:=fun b o e =>
    hsb₁.extBut b o (hbs b (Heap.lt_size e)).1 (uE _ (hH2 ▸ uE _ e))
  have hacc:h₁.get? p=some { cls:=.type "list",data:=.seq ([]:List Value).toArray 0 }:=by
    refine hsb₁.extBut p _ hpC ?_
    rw [← hpe]
    exact uE _ (hH2 ▸ uW _ rfl)
  have hfree:H1 p=none:=I1.hok.fresh hple
  have hfreeC:H1 C=none:=I1.hok.fresh hCle
  obtain ⟨W,⟨m0,w0⟩,turn⟩:=q p hfree
  have X'def:∃ X',X'=fe X (tn++caps.map (·.2)) scope cl s₂ H1 C fp (X.pn++pins):=⟨_,rfl⟩
  obtain ⟨X',hX'⟩:=X'def
  have hstk:∀ b∈frs X.stack,b=X.env.locals∨b∈X.fs:=fun b hb=>uG.mp (I1.stkSub b hb)
  have hfpl:∀ b∈fp,b < s₂.heap.objs.size:=fun b hb=>let ⟨_,e,_⟩:=T.obj _ _ st b hb;Heap.lt_size e
  have hfps:∀ b∈fp,b∉frs X.stack:=fun b hb z=>(hstk b z).elim (fun e=>(hfp b hb).2.1 e) fun e=>(hfp b hb).2.2.1 e
  have hcells:∀ x c,cl.lookup x=some c→c < s₂.heap.objs.size∧H1 c=none:=fun x c e=>by
    obtain ⟨v,hv⟩:=I1.cell x c (hcl x c e)
    exact⟨hv.lt,I1.freeC x c (hcl x c e)⟩
  have ok:X'.Ok:=by
    subst hX'
    have o:=I1.ok
    exact { mod:=o.mod
            kind:=by show (relabel scope X.env).kind=.function;exact hkind
            glob:=o.glob
            blt:=o.blt
            above:=hCle
            inj:=fun x y c h1 h2=>o.inj x y c (hcl x c h1) (hcl y c h2)
            has:=fun x hx=>hhas x hx
            cab:=fun x c h1 _=>nomatch h1
            hd:=o.hd
            frames:=o.frames
            stk:=.inl rfl
            exf:=fun b hb=>⟨(hbs b (hfpl b hb)).1,fun x c e=>fun z=>(hfp b hb).2.2.2.2.1 x c (hcl x c e) z⟩
            bs:=fun b ob e=>I1.bs b ob e
            bsz:=uD o.bsz I1.sz
            noex:=fun b ob e hb=>by
              obtain ⟨_,_,_,hh,_⟩:=hfp b hb
              rcases hh with hh | hh
              · exact o.noex b ob e hh
              · exact absurd (Heap.lt_size (I1.ok.bs b ob e).1) (Nat.not_lt.mpr hh)
            exfs:=hfps
            funs:=I1.stack
            frf:=I1.stkFree }
  have capOk:∀ (m:Str→Option Value) (i:Nat) (x:Str) (v:V),X'.N[i]?=some x→(capS tn.length caps σ)[i]?=some (some v)→Vis X'.env.scope x→∃ u,RelV v u∧Look X'.env h₁ m x u:=by
    subst hX'
    intro m i x v hN hσ hv
    have hN:(tn++caps.map (·.2))[i]?=some x:=hN
    unfold capS at hσ
    by_cases hi:i < tn.length
    · rw [uV (by rw [uS];exact hi),List.getElem?_replicate,if_pos hi] at hσ
      cases hσ
    · rw [uU (by rw [uS];omega),uS] at hσ
      rw [uU (by omega)] at hN
      rw [uN] at hσ hN
      cases hc:caps[i - tn.length]? with
      | none=>rw [hc] at hN;cases hN
      | some pr =>
        rw [hc] at hN hσ
        have hN:pr.2=x:=Option.some.inj hN
        have hσ:(σ[pr.1]?).join=some v:=Option.some.inj hσ
        obtain ⟨c1,c2,c3⟩:=hcap pr (uO hc)
        subst hN
        have hσ':σ[pr.1]?=some (some v):=by
          cases z:σ[pr.1]? with
          | none=>rw [z] at hσ;cases hσ
          | some o=>rw [z] at hσ;exact congrArg some hσ
        obtain ⟨m1,hm1,hl1⟩:=I1.loc
        obtain ⟨u,ru,lk⟩:=hl1 pr.1 pr.2 v c1 hσ' (.inr (.inl c2))
        refine⟨u,ru,.inr ⟨c3,?_⟩⟩
        rcases lk with ⟨k,_⟩ | ⟨_,c,ec,ic⟩
        · have k:X.env.scope.names.lookup pr.2=some .local :=k
          rw [c2] at k
          cases k
        · obtain ⟨c',ec'⟩:=hhas pr.2 c3
          have e1:=hcl _ _ ec'
          have ec:X.env.cells.lookup pr.2=some c:=ec
          rw [ec] at e1
          cases e1
          exact⟨c,ec',ic.keeps old⟩
  have un0:Un (frs X.stack) fp H1 (upd H1 p (.lst [])) s₂.heap h₁:=Un.laid old hple hfree
  have I4:∀ tk,Inv X' [] (capS tn.length caps σ) (upd H1 p (.lst [])) { s₂ with heap:=h₁,toks:=tk }:=fun tk=>by
    have hN:X'.N=tn++caps.map (·.2):=by rw [hX'];rfl
    refine⟨ok,?_,I1.bare,?_,⟨m1,?_,fun i x v e1 e2 e3=>?_⟩,fun x c e=>?_,?_,fun x c e=>?_,fun pr hp=>?_,?_,?_⟩
    · rw [hX'];rfl
    · rw [hX'];exact un0
    · rw [hX'];exact hns₁
    · exact capOk _ i x v e1 e2 e3
    · rw [hX'] at e
      obtain ⟨v,hv⟩:=I1.cell x c (hcl x c e)
      exact⟨v,hv.keeps old⟩
    · rw [hX']
      show upd H1 p (.lst []) C=none
      rw [ap (Ne.symm hpC)]
      exact hfreeC
    · rw [hX'] at e
      have hc:=hcells x c e
      show upd H1 p (.lst []) c=none
      rw [ap (hbs c hc.1).2]
      exact hc.2
    · rw [hX'] at hp
      have hp:pr∈(X.pn++pins)++[]:=hp
      rw [List.append_nil] at hp
      obtain ⟨e,n,nl,nf,d⟩:=I1.pin pr hp
      have hlt:=Heap.lt_size e
      refine⟨old _ _ e,?_,?_,fun z=>?_,d⟩
      · rw [ap (hbs _ hlt).2];exact n
      · rw [hX'];exact (hbs _ hlt).1
      · rw [hX'] at z
        exact (hstk _ z).elim nl nf
    · have e1:X'.prog=X.prog:=by rw [hX'];rfl
      have e2:X'.w=X.w:=by rw [hX'];rfl
      rw [e1,e2]
      exact I1.hok.laid old hple ⟨Nat.zero_le _,[],0,.nil,hacc⟩
    · rw [hN]
      unfold capS
      rw [uK,uK,uS,uA,uA]
  have fpk:∀ H',(∀ b∈fp,H' b=none)→∀ b∈fp,FpOk X' [] H' b:=fun H' hn b hb=>by
    rw [hX']
    refine⟨hn b hb,(hbs b (hfpl b hb)).1,hfps b hb,.inl hb,fun x c e=>fun z=>(hfp b hb).2.2.2.2.1 x c (hcl x c e) z,fun pr hp=>?_⟩
    have hp:pr∈(X.pn++pins)++[]:=hp
    rw [List.append_nil] at hp
    exact (hfp b hb).2.2.2.2.2 pr hp
  obtain ⟨hg,hf,he⟩:=hb s₂ H1 C fp (X.pn++pins)
  rw [← hX'] at hg hf he
  have p1:X'.prog=X.prog:=by rw [hX'];rfl
  have p2:X'.w=X.w:=by rw [hX'];rfl
  have p3:X'.K=X.K:=by rw [hX'];rfl
  have p4:X'.calm=true:=by rw [hX'];exact hcalm
  have p5:X'.env=compEnvC scope cl C X.env:=by rw [hX'];rfl
  have p6:X'.A=X.A:=by rw [hX'];rfl
  have p7:X'.xe=fun _ _=>False:=by rw [hX'];rfl
  have st1:tnr 0 h₁:=T.keep _ _ _ st fun b hb o e=>old b o e
  have loop:∀ tk,codeAny (model X.prog X.w) X.A (.compLoop (.ListComp elt [⟨tgt,iter,ifs,0⟩] scope pos) 0 (.ref it) (.ref p) (compEnvC scope cl C X.env))
      (compPost (model X.prog X.w) X.A (fun _ _=>False) use Qf (.ref p) C) { s₂ with heap:=h₁,toks:=tk }:=fun tk=>by
    refine cK (fun n s'=>∃ i xs σ' H',Inv X' [] σ' H' s'∧tnr i s'.heap∧(∀ b∈fp,H' b=none)∧W i n xs σ' H') ?_ m0 ⟨0,[],_,_,I4 tk,st1,fun b hb=>?_,w0⟩
    · rintro n s3 ⟨i,xs,σ3,H3,I3,st3,fr3,w3⟩
      rcases turn i n xs σ3 H3 w3 with ⟨stop,qn⟩ | ⟨go,step⟩
      · have q1:=T.done X' p1 p2 p3 p4 i [] s3 _ H3 (fun _ _=>False) I3 (fpk H3 fr3) st3 stop
        rw [p6] at q1
        refine thn q1 fun r s4 ⟨hr,I4'⟩=>?_
        subst hr
        obtain ⟨m4,hm4,_⟩:=I4'.loc
        rw [p5] at hm4
        have hb4:=I4'.base
        rw [hX'] at hb4
        have hb4:Un (frs X.stack) fp H1 H3 s₂.heap s4.heap:=hb4
        have hfc:H3 C=none:=by
          have z:=I4'.free
          rw [p5] at z
          exact z
        have hok4:HOk X.prog X.w H3 s4.heap:=by
          have hk:=I4'.hok
          rw [p1,p2] at hk
          exact hk
        have hos:s4.os=s₂.os:=by
          have z:=I4'.os
          rw [hX'] at z
          exact z
        have I9:=I1.call' (s':=s4) (ch:=fp) hos hb4 hok4 I4'.bare (fun b hb=>by
          obtain ⟨_,f1,f2,f3,f4,f5⟩:=hfp b hb
          exact⟨f3,f1,f4,f5⟩)
        exact fin p C m4 H3 s4 I9 hm4 ⟨hfc,(I1.fpOk hCle hfreeC).2⟩ qn
      · have q1:=T.item X' p1 p2 p3 p4 i [] s3 _ H3 (fun _ _=>False) I3 (fpk H3 fr3) st3 go
        rw [p6] at q1
        refine thn q1 fun r s4 ⟨u,hr,h4⟩=>?_
        subst hr
        refine thn h4 fun _ s5 ⟨x,H5,I5,r5,y5,st5,fr5⟩=>?_
        have I5':=I5.pinned (fpk H5 fr5) (T.obj _ _ st5)
        have q5:=hg _ s5 _ H5 x u _ I5' r5 (step x H5 y5)
        rw [p1,p2,p5,p6,p7] at q5
        refine thn q5 fun _ s6 ⟨σ6,H6,I6,q6⟩=>?_
        have q6:=hf _ s6 σ6 H6 _ I6 q6
        rw [p1,p2,p5,p6,p7] at q6
        refine thn q6 fun b s7 ⟨H7,I7,q7⟩=>?_
        have again:∀ {s8:Shared} {H8:Hp},Inv X' ([]++gF fp s5.heap) σ6 H8 s8→Inv X' [] σ6 H8 s8∧tnr (i + 1) s8.heap∧(∀ b∈fp,H8 b=none):=fun {s8 H8} I8=>by
          refine⟨I8.unpinned,T.keep _ _ _ st5 fun b hb o e=>(I8.pin (b,o) (uH _ (uH _ (cJ hb e)))).1,fun b hb=>?_⟩
          obtain ⟨o,e,d⟩:=T.obj _ _ st5 b hb
          exact (I8.pin (b,o) (uH _ (uH _ (cJ hb e)))).2.1
        cases b with
        | false =>
          obtain ⟨m',hm,w7⟩:=q7
          obtain ⟨a1,a2,a3⟩:=again I7
          exact⟨m',hm,i + 1,xs,σ6,H7,a1,a2,a3,w7⟩
        | true =>
          rw [if_pos rfl]
          have q8:=he _ s7 σ6 H7 _ I7 q7
          rw [p1,p2,p5,p6,p7] at q8
          refine thn q8 fun y s8 ⟨yv,H8,I8,ry,hac,hsz,m',hm,w8⟩=>?_
          have q9:=gA (X:=X') _ s8 σ6 H8 (.ref p) [yv] (.ref p) [y] (fun _ H9=>H9=upd H8 p (.lst (xs++[yv]))) I8 rfl (.cons ry .nil) ⟨p,xs,yv,rfl,rfl,hac,hsz,rfl⟩
          rw [p1,p2,p6,p7] at q9
          refine thn q9 fun _ s9 ⟨_,H9,I9,_,e9⟩=>?_
          subst e9
          obtain ⟨a1,a2,a3⟩:=again I9
          exact⟨m',hm,i + 1,xs++[yv],σ6,_,a1,a2,a3,w8⟩
    · rw [ap (hbs b (hfpl b hb)).2]
      exact (hfp b hb).1
  have L0:=loop (s₂.toks + ([]:List (Str×Value)).length)
  exact codeAny_compStart_list L0 (T.self _ _ _ _ _ st1 L0)
theorem oG {X:Cx} {elt tgt iter:Expr} {ifs:List Expr} {scope:Scope} {pos:Pos} {wi:TI} {cl:List (Str×Addr)} (tn:List Str) (caps:List (Nat×Str)) {g:TG} {tc:TT} {te:TE}
  (hcalm:X.calm=true) (hclos:closureFor scope X.env=pure cl) (hcell:∀ y∈scope.names,y.2≠.cell) (hkind:scope.kind=.function) (hnames:∀ y∈scope.names,y.2=.local→scope.names.lookup y.1=some .local)
  (hcl:∀ x c,cl.lookup x=some c→X.env.cells.lookup x=some c) (hhas:∀ x,((relabel scope X.env).names.lookup x=some .cell∨(relabel scope X.env).names.lookup x=some .free)→∃ c,cl.lookup x=some c)
  (hcap:∀ p∈caps,X.N[p.1]?=some p.2∧X.env.scope.names.lookup p.2=some .cell∧((relabel scope X.env).names.lookup p.2=some .cell∨(relabel scope X.env).names.lookup p.2=some .free))
  (hi:PI X.nox tgt iter wi)
  (hb:∀ s2 H2 C fp pn,PG (fe X (tn++caps.map (·.2)) scope cl s2 H2 C fp pn) tgt g∧PF (fe X (tn++caps.map (·.2)) scope cl s2 H2 C fp pn) ifs tc∧PE (fe X (tn++caps.map (·.2)) scope cl s2 H2 C fp pn) elt te)
  (hs:∀ x,foldedSetIterable iter X.env x=pure x:=by intro _;rfl) :
  PE X.nox (.ListComp elt [⟨tgt,iter,ifs,0⟩] scope pos) (qX wi tn.length caps g tc te):=by
 intro pins s σ H Q I h
 rw [eval_ListComp]
 refine mU tn caps hcalm hclos hcell hkind hnames hcl hhas hcap hi hb hs (use:=none) pins s σ H Q I h fun p C m4 H3 s4 I9 hm4 hf q=>?_
 obtain ⟨f0,f1,f2,f3,f4,f5⟩:=hf
 exact⟨m4,hm4,fun h' hs'=>⟨.ref p,H3,I9.turned (t':=s4.toks) (fun b o hb e=>hs'.extBut b o hb e) f0 f1 f3 f4 f5,rfl,q⟩⟩
end DL
namespace DL
open PySem PySem.Spec PyProof.Rows L2
theorem eC:bootBuiltins "len"=some (.builtin "len"):=by decide +kernel
theorem ua:bootBuiltins "abs"=some (.builtin "abs"):=by decide +kernel
theorem bN:bootBuiltins "isinstance"=some (.builtin "isinstance"):=by decide +kernel
theorem mI:bootBuiltins "max"=some (.builtin "max"):=by decide +kernel
theorem mq:bootBuiltins "sorted"=some (.builtin "sorted"):=by decide +kernel
theorem tz:bootBuiltins "int"=some (.type "int"):=by decide +kernel
theorem iG:bootBuiltins "tuple"=some (.type "tuple"):=by decide +kernel
theorem nU:bootBuiltins "list"=some (.type "list"):=by decide +kernel
section
variable {X:Cx}
def qZ:List D→(D→Prop)→Prop
 | [.tup xs,.tup ys],R=>xs≠[]∧ys≠[]∧xs.length + ys.length≤9000∧R (.tup (xs++ys))
 | _,_=>False
theorem mo {d0:List D} {R:D→Prop} (h:qZ d0 R):∃ (xs:List D) (ys:List D),d0=[.tup xs,.tup ys]∧xs≠[]∧ys≠[]∧xs.length + ys.length≤9000∧R (.tup (xs++ys)):=by
 rcases d0 with _ | ⟨a,_ | ⟨b,_ | ⟨c,l⟩⟩⟩
 ·exact False.elim h
 ·cases a<;>exact False.elim h
 ·cases a<;>first | exact False.elim h | (cases b<;>first | exact False.elim h | exact⟨_,_,rfl,h⟩)
 ·cases a<;>first | exact False.elim h | (cases b<;>exact False.elim h)
theorem rO:OpR X (binaryOp .Add) fun x y=>aU X.K qZ [x,y] :=
 OpR.imp qy fun x y H Q ⟨M,ds,R,m,rs,h,k⟩=>by
  replace h:=mo h
  obtain ⟨_,_,rfl,h⟩:=h
  ·obtain ⟨n1,n2,hz,q⟩:=h
   obtain ⟨h1,h2⟩:=bV rs
   unfold Rep at h1 h2
   obtain ⟨a,vs,e,l,r⟩:=h1
   obtain ⟨b,ws,e',l',r'⟩:=h2
   have l1:=Reps.length _ _ r
   have l2:=Reps.length _ _ r'
   refine⟨a,b,vs,ws,e,e',l,l',fun z=>n1 (List.eq_nil_of_length_eq_zero (by rw [l1,z];rfl)),dh (by rw [← l1,← l2];exact hz),fun z=>absurd (List.eq_nil_of_length_eq_zero (by rw [l2,z];rfl)) n2,fun _ p hp=>k _ q _ _ (al hp _) ?_⟩
   unfold Rep
   exact⟨p,vs++ws,rfl,SqT.of ak,Reps.kp (Kp.of_same (al hp _)) _ _ (Reps.append _ _ _ _ r r')⟩
def kz:List D→(D→Prop)→Prop
 | [.int i,.int j],R=>R (.int (i + j))
 | [.lst xs,.lst ys],R=>xs.length + ys.length≤9000∧R (.lst (xs++ys))
 | [.tup xs,.tup ys],R=>xs≠[]∧ys≠[]∧xs.length + ys.length≤9000∧R (.tup (xs++ys))
 | _,_=>False
theorem mC {d0:List D} {R:D→Prop} (h:kz d0 R):(∃ (i:Int) (j:Int),d0=[.int i,.int j]∧R (.int (i + j)))∨(∃ (xs:List D) (ys:List D),d0=[.lst xs,.lst ys]∧xs.length + ys.length≤9000∧R (.lst (xs++ys)))∨(∃ (xs:List D) (ys:List D),d0=[.tup xs,.tup ys]∧xs≠[]∧ys≠[]∧xs.length + ys.length≤9000∧R (.tup (xs++ys))):=by
 rcases d0 with _ | ⟨a,_ | ⟨b,_ | ⟨c,l⟩⟩⟩
 ·exact False.elim h
 ·cases a<;>exact False.elim h
 ·cases a<;>first | exact False.elim h | (cases b<;>first | exact False.elim h | exact .inl ⟨_,_,rfl,h⟩ | exact .inr (.inl ⟨_,_,rfl,h⟩) | exact .inr (.inr ⟨_,_,rfl,h⟩))
 ·cases a<;>first | exact False.elim h | (cases b<;>exact False.elim h)
theorem aX:OpR X (binaryOp .Add) fun x y=>aU X.K kz [x,y] :=
 OpR.imp (OpR.or (OpR.or uu uw) rO) fun x y H Q ⟨M,ds,R,m,rs,h,k⟩=>by
  replace h:=mC h
  rcases h with ⟨_,_,rfl,h⟩ | ⟨_,_,rfl,h⟩ | ⟨_,_,rfl,h⟩
  ·exact .inl (.inl ⟨M,_,R,m,rs,⟨_,_,rfl,h⟩,k⟩)
  ·exact .inl (.inr ⟨M,_,R,m,rs,h,k⟩)
  ·exact .inr ⟨M,_,R,m,rs,h,k⟩
mutual
def D.dp:D→Nat
 | .tup xs=>D.dps xs + 1
 | .lst xs=>D.dps xs + 1
 | .fz xs=>D.dps xs + 1
 | .dct _ _=>0
 | .fd _ _=>0
 | .fo _ _ _=>0
 | .exn _ _ _=>0
 | .non=>0
 | .bl _=>0
 | .int _=>0
 | .str _=>0
def D.dps:List D→Nat
 | []=>0
 | x :: r=>max (D.dp x) (D.dps r)
end
mutual
def D.nd:D→Bool
 | .tup xs=>D.nds xs
 | .lst xs=>D.nds xs
 | .fz xs=>D.nds xs
 | .dct _ _=>false
 | .fd _ _=>false
 | .fo _ _ _=>false
 | .exn _ _ _=>false
 | .non=>true
 | .bl _=>true
 | .int _=>true
 | .str _=>true
def D.nds:List D→Bool
 | []=>true
 | x :: r=>D.nd x && D.nds r
end
theorem bI (A:Around):A.in1.units=A.units + 1:=rfl
theorem dX (n:Nat):((List.range n).all fun _=>true)=true:=by simp
section
variable {pins:List (Addr×Obj)} {σ:L2.St} {H:Hp} {s:Shared} {M:Addr→Prop}
mutual
theorem sN (I:Inv X pins σ H s):∀ (d:D) (A:Around) (v v':V) (u u':Value),d.nd=true→A.units + d.dp < cLine→Rep X.K M H d v→Rep X.K M H d v'→RelV v u→RelV v' u'→SeqAt.EqAt A s u u' true
 | .non,A,v,v',u,u',_,_,r,r',q,q'=>by
  unfold Rep at r r';subst r r'
  have:=i4 (A:=A) (s:=s) q q' rfl rfl
  exact this
 | .bl b,A,v,v',u,u',_,_,r,r',q,q'=>by
  unfold Rep at r r';subst r r'
  have:=i4 (A:=A) (s:=s) q q' rfl rfl
  simpa [eqV] using this
 | .int b,A,v,v',u,u',_,_,r,r',q,q'=>by
  unfold Rep at r r';subst r r'
  have:=i4 (A:=A) (s:=s) q q' rfl rfl
  simpa [eqV] using this
 | .str b,A,v,v',u,u',_,_,r,r',q,q'=>by
  unfold Rep at r r';subst r r'
  have:=i4 (A:=A) (s:=s) q q' rfl rfl
  simpa [eqV] using this
 | .tup ds,A,v,v',u,u',hn,hd,r,r',q,q'=>by
  unfold Rep at r r'
  obtain ⟨a,vs,rfl,sq,rs⟩:=r
  obtain ⟨b,ws,rfl,sq',rs'⟩:=r'
  cases q
  cases q'
  unfold D.dp at hd
  by_cases e:a=b
  ·subst e;exact SeqAt.EqAt.same _
  ·obtain ⟨its,r1,t1,_⟩:=I.tuple sq
   obtain ⟨its',r2,t2,_⟩:=I.tuple sq'
   have hs:its.length=its'.length:=by rw [← r1.length,← r2.length,← Reps.length _ _ rs,← Reps.length _ _ rs']
   have k:=SeqAt.RcAt.tuples (A:=A) (e:=fun _=>true) t1 t2 (by omega) (eqAt_Ds I ds A.in1 vs ws its its' hn (by rw [bI];omega) rs rs' r1 r2)
   have z:((List.range (min its.toArray.size its'.toArray.size)).all (fun _=>true) && its.toArray.size == its'.toArray.size)=true:=by simp [hs]
   rw [z] at k
   exact SeqAt.EqAt.of_refs e k
 | .lst ds,A,v,v',u,u',hn,hd,r,r',q,q'=>by
  unfold Rep at r r'
  obtain ⟨a,vs,rfl,_,sq,rs⟩:=r
  obtain ⟨b,ws,rfl,_,sq',rs'⟩:=r'
  cases q
  cases q'
  unfold D.dp at hd
  by_cases e:a=b
  ·subst e;exact SeqAt.EqAt.same _
  ·obtain ⟨its,r1,t1,_⟩:=I.list (SqL.of sq)
   obtain ⟨its',r2,t2,_⟩:=I.list (SqL.of sq')
   have hs:its.length=its'.length:=by rw [← r1.length,← r2.length,← Reps.length _ _ rs,← Reps.length _ _ rs']
   have k:=SeqAt.RcAt.lists (A:=A) (e:=fun _=>true) t1.isList t2.isList (by simp [hs]) (by omega) (eqAt_Ds I ds A.in1 vs ws its its' hn (by rw [bI];omega) rs rs' r1 r2)
   rw [dX] at k
   exact SeqAt.EqAt.of_refs e k
 | .fz ds,A,v,v',u,u',hn,hd,r,r',q,q'=>by
  unfold Rep at r r'
  obtain ⟨a,vs,rfl,sq,rs⟩:=r
  obtain ⟨b,ws,rfl,sq',rs'⟩:=r'
  cases q
  cases q'
  unfold D.dp at hd
  by_cases e:a=b
  ·subst e;exact SeqAt.EqAt.same _
  ·obtain ⟨its,r1,t1,_⟩:=I.list sq.seq
   obtain ⟨its',r2,t2,_⟩:=I.list sq'.seq
   have hs:its.length=its'.length:=by rw [← r1.length,← r2.length,← Reps.length _ _ rs,← Reps.length _ _ rs']
   have k:=SeqAt.RcAt.lists (A:=A) (e:=fun _=>true) t1.isList t2.isList (by simp [hs]) (by omega) (eqAt_Ds I ds A.in1 vs ws its its' hn (by rw [bI];omega) rs rs' r1 r2)
   rw [dX] at k
   exact SeqAt.EqAt.of_refs e k
 | .dct ks ds,A,v,v',u,u',hn,_,_,_,_,_=>by unfold D.nd at hn;cases hn
 | .fd ks ds,A,v,v',u,u',hn,_,_,_,_,_=>by unfold D.nd at hn;cases hn
 | .fo o ks ds,A,v,v',u,u',hn,_,_,_,_,_=>by unfold D.nd at hn;cases hn
 | .exn _ _ _,A,v,v',u,u',hn,_,_,_,_,_=>by unfold D.nd at hn;cases hn
theorem eqAt_Ds (I:Inv X pins σ H s):∀ (ds:List D) (A:Around) (vs ws:List V) (us us':List Value),D.nds ds=true→A.units + D.dps ds < cLine→Reps X.K M H ds vs→Reps X.K M H ds ws→Vals vs us→Vals ws us' →
  ∀ j (h1:j < us.toArray.size) (h2:j < us'.toArray.size),SeqAt.EqAt A s us.toArray[j] us'.toArray[j] true
 | [],A,vs,ws,us,us',_,_,r,r',q,q',j,h1,h2=>by
  unfold Reps at r
  subst r
  cases q
  exact absurd h1 (by simp)
 | d :: ds,A,vs,ws,us,us',hn,hd,r,r',q,q',j,h1,h2=>by
  unfold Reps at r r'
  obtain ⟨v,vr,rfl,rv,rs⟩:=r
  obtain ⟨w',wr,rfl,rw',rs'⟩:=r'
  unfold D.nds at hn
  obtain ⟨n1,n2⟩:=uY.mp hn
  unfold D.dps at hd
  cases q with
  | @cons _ u0 _ ur qa qb =>
   cases q' with
   | @cons _ u1 _ ur' qa' qb' =>
    cases j with
    | zero=>exact sN I d A v w' _ _ n1 (by omega) rv rw' qa qa'
    | succ j =>
     have z:=eqAt_Ds I ds A vr wr ur ur' n2 (by omega) rs rs' qb qb' j (by simpa using h1) (by simpa using h2)
     simpa using z
end
end
theorem nj {i j:Int}:decide (V.int i=V.int j)=decide (i=j):=by rw [hV];exact Bool.beq_eq_decide_eq _ _
theorem qS {i j:Bool}:decide (V.bl i=V.bl j)=decide (i=j):=by rw [kF];exact Bool.beq_eq_decide_eq _ _
theorem nB {i j:Str}:decide (V.str i=V.str j)=decide (i=j):=by rw [g6];exact Bool.beq_eq_decide_eq _ _
def fEq:List D→(D→Prop)→Prop
 | [.int i,.int j],R=>R (.bl (decide (i=j)))
 | [.str x,.str y],R=>R (.bl (decide (x=y)))
 | [.bl a,.bl b],R=>R (.bl (decide (a=b)))
 | [.tup xs,.tup ys],R=>(xs=ys∧D.nds xs=true∧D.dps xs≤60)∧R (.bl true)
 | [.lst xs,.lst ys],R=>((xs=ys∧D.nds xs=true∧D.dps xs≤60)∧R (.bl true))∨(xs.length≠ys.length∧R (.bl false))
 | _,_=>False
theorem qY {d0:List D} {R:D→Prop} (h:fEq d0 R):(∃ (i:Int) (j:Int),d0=[.int i,.int j]∧R (.bl (decide (i=j))))∨(∃ (x:Str) (y:Str),d0=[.str x,.str y]∧R (.bl (decide (x=y))))∨(∃ (a:Bool) (b:Bool),d0=[.bl a,.bl b]∧R (.bl (decide (a=b))))∨(∃ (xs:List D) (ys:List D),d0=[.tup xs,.tup ys]∧(xs=ys∧D.nds xs=true∧D.dps xs≤60)∧R (.bl true))∨(∃ (xs:List D) (ys:List D),d0=[.lst xs,.lst ys]∧(((xs=ys∧D.nds xs=true∧D.dps xs≤60)∧R (.bl true))∨(xs.length≠ys.length∧R (.bl false)))):=by
 rcases d0 with _ | ⟨a,_ | ⟨b,_ | ⟨c,l⟩⟩⟩
 ·exact False.elim h
 ·cases a<;>exact False.elim h
 ·cases a<;>first | exact False.elim h | (cases b<;>first | exact False.elim h | exact .inl ⟨_,_,rfl,h⟩ | exact .inr (.inl ⟨_,_,rfl,h⟩) | exact .inr (.inr (.inl ⟨_,_,rfl,h⟩)) | exact .inr (.inr (.inr (.inl ⟨_,_,rfl,h⟩))) | exact .inr (.inr (.inr (.inr ⟨_,_,rfl,h⟩))))
 ·cases a<;>first | exact False.elim h | (cases b<;>exact False.elim h)
theorem pZ {i j:Int} {R:D→Prop}:fEq [.int i,.int j] R↔R (.bl (decide (i=j))):=Iff.rfl
theorem qd {i j:Str} {R:D→Prop}:fEq [.str i,.str j] R↔R (.bl (decide (i=j))):=Iff.rfl
theorem qU {i j:Bool} {R:D→Prop}:fEq [.bl i,.bl j] R↔R (.bl (decide (i=j))):=Iff.rfl
theorem pU {i j:List D} {R:D→Prop}:fEq [.tup i,.tup j] R↔(i=j∧D.nds i=true∧D.dps i≤60)∧R (.bl true):=Iff.rfl
theorem o_eq (hu:X.A.units + 64 < cLine):OpR X (compareOp .Eq) fun x y=>aU X.K fEq [x,y]:=by
 intro pins s σ H x y v u Q I rx ry h
 obtain ⟨M,ds,R,m,rs,h,k⟩:=h
 replace h:=qY h
 rcases h with ⟨_,_,rfl,h⟩ | ⟨_,_,rfl,h⟩ | ⟨_,_,rfl,h⟩ | ⟨_,_,rfl,h⟩ | ⟨_,_,rfl,h⟩
 ·obtain ⟨h1,h2⟩:=bV rs
  cases aH h1
  cases aH h2
  refine p0 pins s σ H _ _ v u Q I rx ry ⟨rfl,?_⟩
  rw [nj]
  exact k _ h _ H (Same.refl H) (Rep.sc rfl)
 ·obtain ⟨h1,h2⟩:=bV rs
  cases ci h1
  cases ci h2
  refine p0 pins s σ H _ _ v u Q I rx ry ⟨rfl,?_⟩
  rw [nB]
  exact k _ h _ H (Same.refl H) (Rep.sc rfl)
 ·obtain ⟨h1,h2⟩:=bV rs
  cases fg h1
  cases fg h2
  refine p0 pins s σ H _ _ v u Q I rx ry ⟨rfl,?_⟩
  rw [qS]
  exact k _ h _ H (Same.refl H) (Rep.sc rfl)
 ·obtain ⟨⟨e,hn,hd⟩,h⟩:=h
  subst e
  obtain ⟨h1,h2⟩:=bV rs
  unfold Rep at h1 h2
  obtain ⟨a,vs,rfl,sq,rs1⟩:=h1
  obtain ⟨b,ws,rfl,sq',rs2⟩:=h2
  cases rx
  cases ry
  obtain ⟨its,r1,t1,_⟩:=I.tuple sq
  obtain ⟨its',r2,t2,_⟩:=I.tuple sq'
  have hs:its.length=its'.length:=by rw [← r1.length,← r2.length,← Reps.length _ _ rs1,← Reps.length _ _ rs2]
  refine SeqAt.eq_tupleAt (e:=fun _=>true) t1 t2 (by omega) (eqAt_Ds I _ X.A.in1 vs ws its its' hn (by rw [bI];omega) rs1 rs2 r1 r2) ?_
  have z:((List.range (min its.toArray.size its'.toArray.size)).all (fun _=>true) && its.toArray.size == its'.toArray.size)=true:=by simp [hs]
  rw [z]
  exact⟨.bl true,H,I,rfl,k _ h _ H (Same.refl H) (Rep.sc rfl)⟩
 ·obtain ⟨h1,h2⟩:=bV rs
  unfold Rep at h1 h2
  obtain ⟨a,vs,rfl,_,sq,rs1⟩:=h1
  obtain ⟨b,ws,rfl,_,sq',rs2⟩:=h2
  cases rx
  cases ry
  obtain ⟨its,r1,t1,_⟩:=I.list (SqL.of sq)
  obtain ⟨its',r2,t2,_⟩:=I.list (SqL.of sq')
  rcases h with ⟨⟨e,hn,hd⟩,h⟩ | ⟨ne,h⟩
  ·subst e
   have hs:its.length=its'.length:=by rw [← r1.length,← r2.length,← Reps.length _ _ rs1,← Reps.length _ _ rs2]
   refine SeqAt.eq_listAt (e:=fun _=>true) t1.isList t2.isList (by simp [hs]) (by omega) (eqAt_Ds I _ X.A.in1 vs ws its its' hn (by rw [bI];omega) rs1 rs2 r1 r2) ?_
   rw [dX]
   exact⟨.bl true,H,I,rfl,k _ h _ H (Same.refl H) (Rep.sc rfl)⟩
  ·refine SeqAt.eq_list_lengthsAt t1.isList t2.isList ?_ (by omega) ⟨.bl false,H,I,rfl,k _ h _ H (Same.refl H) (Rep.sc rfl)⟩
   have l1:=r1.length
   have l2:=r2.length
   have l3:=Reps.length _ _ rs1
   have l4:=Reps.length _ _ rs2
   simp only [uT,bne_iff_ne,ne_eq]
   omega
def fNe:List D→(D→Prop)→Prop
 | [.int i,.int j],R=>R (.bl (!decide (i=j)))
 | [.str x,.str y],R=>R (.bl (!decide (x=y)))
 | [.bl a,.bl b],R=>R (.bl (!decide (a=b)))
 | _,_=>False
theorem sK {d0:List D} {R:D→Prop} (h:fNe d0 R):(∃ (i:Int) (j:Int),d0=[.int i,.int j]∧R (.bl (!decide (i=j))))∨(∃ (x:Str) (y:Str),d0=[.str x,.str y]∧R (.bl (!decide (x=y))))∨(∃ (a:Bool) (b:Bool),d0=[.bl a,.bl b]∧R (.bl (!decide (a=b)))):=by
 rcases d0 with _ | ⟨a,_ | ⟨b,_ | ⟨c,l⟩⟩⟩
 ·exact False.elim h
 ·cases a<;>exact False.elim h
 ·cases a<;>first | exact False.elim h | (cases b<;>first | exact False.elim h | exact .inl ⟨_,_,rfl,h⟩ | exact .inr (.inl ⟨_,_,rfl,h⟩) | exact .inr (.inr ⟨_,_,rfl,h⟩))
 ·cases a<;>first | exact False.elim h | (cases b<;>exact False.elim h)
theorem o_ne (_:X.A.units + 64 < cLine):OpR X (compareOp .NotEq) fun x y=>aU X.K fNe [x,y]:=by
 intro pins s σ H x y v u Q I rx ry h
 obtain ⟨M,ds,R,m,rs,h,k⟩:=h
 replace h:=sK h
 rcases h with ⟨_,_,rfl,h⟩ | ⟨_,_,rfl,h⟩ | ⟨_,_,rfl,h⟩
 ·obtain ⟨h1,h2⟩:=bV rs
  cases aH h1
  cases aH h2
  refine ql pins s σ H _ _ v u Q I rx ry ⟨rfl,?_⟩
  rw [nj]
  exact k _ h _ H (Same.refl H) (Rep.sc rfl)
 ·obtain ⟨h1,h2⟩:=bV rs
  cases ci h1
  cases ci h2
  refine ql pins s σ H _ _ v u Q I rx ry ⟨rfl,?_⟩
  rw [nB]
  exact k _ h _ H (Same.refl H) (Rep.sc rfl)
 ·obtain ⟨h1,h2⟩:=bV rs
  cases fg h1
  cases fg h2
  refine ql pins s σ H _ _ v u Q I rx ry ⟨rfl,?_⟩
  rw [qS]
  exact k _ h _ H (Same.refl H) (Rep.sc rfl)
def fIs:List D→(D→Prop)→Prop
 | [.bl a,.bl b],R=>R (.bl (decide (a=b)))
 | [.non,.non],R=>R (.bl true)
 | [.tup _,.non],R=>R (.bl false)
 | [.exn _ _ _,.non],R=>R (.bl false)
 | _,_=>False
theorem sV {i j:Bool} {R:D→Prop}:fIs [.bl i,.bl j] R↔R (.bl (decide (i=j))):=Iff.rfl
def tyN:D→String
 | .non=>"NoneType"
 | .bl _=>"bool"
 | .int _=>"int"
 | .str _=>"str"
 | .tup _=>"tuple"
 | .lst _=>"list"
 | .fz _=>"list"
 | .dct _ _=>"dict"
 | .fd _ _=>"dict"
 | .fo _ _ _=>"dict"
 | .exn _ _ _=>"NoneType"
def D.noX:D→Prop
 | .exn _ _ _=>False
 | _=>True
def isT (T n:String):Bool:=n == T || (n == "bool" && T == "int")
def lE (T:String):Prop:=∀ (K:PySem.W.Frag) (n:String),n∈["NoneType","bool","int","str","tuple","list","dict"]→PySem.W.kitOne K (.type n) (.type T)=some (isT T n)
theorem qA (d:D):tyN d∈["NoneType","bool","int","str","tuple","list","dict"]:=by cases d<;>simp [tyN]
theorem uv {pins:List (Addr×Obj)} {σ:L2.St} {H:Hp} {s:Shared} {A:Around} {E:Value→Shared→Prop} {M:Addr→Prop} {d:D} {v:V} {u:Value} {T:String} {Q:Value→Shared→Prop} (I:L2.Inv X pins σ H s) (r:Rep X.K M H d v) (nx:d.noX) (ru:RelV v u) (ht:lE T)
  (h:∀ tk,Q (.bool (isT T (tyN d))) { s with toks:=tk }):wpAny (model X.prog X.w) A (call (.builtin "isinstance") [u,.type T]) Q E s:=by
 have e:=ht X.K (tyN d) (qA d)
 cases d with
 | non=>unfold Rep at r;subst r;exact bU I ru (.non) e h
 | bl b=>unfold Rep at r;subst r;exact bU I ru (.bl b) e h
 | int b=>unfold Rep at r;subst r;exact bU I ru (.int b) e h
 | str b=>unfold Rep at r;subst r;exact bU I ru (.str b) e h
 | tup xs =>
  unfold Rep at r
  obtain ⟨a,vs,rfl,sq,_⟩:=r
  cases ru
  obtain ⟨its,_,⟨o,h1,h2,_⟩,_⟩:=I.tuple sq
  exact PySem.W.kia_one PySem.W.kitx_tuple I.kIn ⟨o,h1,h2⟩ e (fun z=>nomatch z) h
 | lst xs=>unfold Rep at r;obtain ⟨a,vs,rfl,_,sq,_⟩:=r;exact bU I ru (.lst sq) e h
 | fz xs =>
  unfold Rep at r
  obtain ⟨a,vs,rfl,sq,_⟩:=r
  cases ru
  obtain ⟨its,_,⟨o,n,h1,h2,_⟩,_⟩:=I.list sq.seq
  exact PySem.W.kia_one PySem.W.kitx_list I.kIn ⟨o,h1,h2⟩ e (fun z=>nomatch z) h
 | dct ks xs=>unfold Rep at r;obtain ⟨a,vs,rfl,_,sq,_⟩:=r;exact bU I ru (.dK sq) e h
 | fd ks xs =>
  unfold Rep at r
  obtain ⟨a,vs,o,rfl,sq,_⟩:=r
  cases ru
  obtain ⟨_,_,va,_,da⟩:=kf I.hok (.inr ⟨o,sq⟩)
  obtain ⟨o2,h1,h2⟩:=da.typeIs
  exact PySem.W.kia_one PySem.W.kitx_dict I.kIn ⟨o2,h1,h2⟩ e (fun z=>nomatch z) h
 | fo o ks xs =>
  unfold Rep at r
  obtain ⟨a,vs,rfl,sq,_⟩:=r
  cases ru
  obtain ⟨_,_,va,_,da⟩:=kf I.hok (.inr ⟨o,sq⟩)
  obtain ⟨o2,h1,h2⟩:=da.typeIs
  exact PySem.W.kia_one PySem.W.kitx_dict I.kIn ⟨o2,h1,h2⟩ e (fun z=>nomatch z) h
 | exn c f x=>exact nx.elim
def dIsi (T:String) (t:TDE):TDE:=fun δ R=>t δ (wd fun x δ1=>x.noX∧R (.d (.bl (isT T (tyN x)))) δ1)
def rIsi (K:PySem.W.Frag) (T:String):List V→Hp→VK→Prop:=fun xs H Q=>∃ x M d,xs=[x,.ty T]∧Rep K M H d x∧d.noX∧Q (.bl (isT T (tyN d))) H
theorem mn {T:String} (ht:lE T):bx X (.builtin "isinstance") (rIsi X.K T):=by
 intro pins s σ H xs us Q I r h
 obtain ⟨x,M,d,rfl,rx,nx,q⟩:=h
 obtain ⟨u,w',rfl,ru,rw'⟩:=ki r
 cases rw'
 exact uv I rx nx ru ht fun tk=>⟨.bl _,H,I.tok _,rfl,q⟩
theorem nF {T:Str} {n:String} {a:Expr} {ta:TDE} {p p2 pos:Pos} (ht:lE n) (hg:Gl X "isinstance") (hm:X.mg "isinstance"=none) (hgT:Gl X T) (hmT:X.mg T=none) (hvT:bootBuiltins T=some (.type n)) (ha:DE X a ta)
  (hnT:T≠"__name__":=by decide) (hdT:(T == ("__debug__":Str))=false:=by decide)
  (he:starEach [a,.Name T p2] X.env=(false,eval a X.env) :: starEach [.Name T p2] X.env:=by rfl) (he2:starEach [.Name T p2] X.env=(false,eval (.Name T p2) X.env) :: starEach [] X.env:=by rfl) (hpl:(backTo pos (starEach [.Name T p2] X.env)).any (·.1)=false:=by rfl) :
  DE X (.Call (.Name "isinstance" p) [a,.Name T p2] [] pos) (dIsi n ta) :=
 PE.imp (cI (mn ht) hg hm bN (aI ha (aI (kK (v:=.ty n) hgT hmT hvT rfl hnT hdT) bS he2) he) (by decide) (by decide) he hpl) fun σ H Q ⟨G,δ,P,R,s,h,k,_⟩=>up.mk s h fun d δ1 h1 v H1 s1=>by
  obtain ⟨A,q⟩:=id s1
  exact⟨v,_,d,rfl,q.pnd (d,v) (by simp),h1.1,k _ δ1 h1.2 _ H1 ((s1.sub (P':=P) fun p hp=>uB _ hp).sc rfl)⟩
theorem ty_int:lE "int":=fun K n hn=>by
 simp only [uG,List.not_mem_nil,or_false] at hn
 rcases hn with rfl | rfl | rfl | rfl | rfl | rfl | rfl<;>with_unfolding_all rfl
theorem kQ:lE "list":=fun K n hn=>by
 simp only [uG,List.not_mem_nil,or_false] at hn
 rcases hn with rfl | rfl | rfl | rfl | rfl | rfl | rfl<;>with_unfolding_all rfl
end
end DL
namespace DL
open PySem PySem.Spec PyProof.Rows L2
section
variable {K:PySem.W.Frag} {G:Gf} {A A':Addr→Prop} {δ:List Sl} {P P':List (D×V)} {σ:L2.St} {H H':Hp}
theorem Sx.addA {p:Addr} (s:Sx K G A δ P σ H) (hn:H p=none) (hs:Same H H') (hp:H' p≠none):Sx K G (fun b=>A b∨b=p) δ P σ H':=by
 have x:=s.same hs
 have hM:∀ b,(G.M0 b∨(A b∨b=p))→(G.M0 b∨A b)∨H b=none:=fun b h=>by
  rcases h with h | h | h
  ·exact .inl (.inl h)
  ·exact .inl (.inr h)
  ·subst h;exact .inr hn
 have up:∀ d v,Rep K (fun b=>G.M0 b∨A b) H d v→Rep K (fun b=>G.M0 b∨(A b∨b=p)) H' d v:=fun d v r=>Rep.kp (Kp.of_same hs) _ _ (Rep.more hM _ _ r)
 have h0:G.H0 p=none:=by
  cases q:G.H0 p with
  | none=>rfl
  | some o=>exact absurd hn (s.stay p (by rw [q];exact fun z=>nomatch z))
 refine⟨x.old,x.stay,x.m0,x.pm,fun b h=>h.elim (s.new b) fun e=>.inl (by rw [e];exact h0),fun b h=>h.elim (x.thr b) fun e=>by rw [e];exact hp,s.len,fun j d' e=>?_,fun j b d' e=>?_,s.inj,fun q hq=>up _ _ (s.pnd q hq)⟩
 ·obtain ⟨v,q,r⟩:=s.dat j d' e
  exact⟨v,q,up _ _ r⟩
 ·obtain ⟨q,r,o⟩:=s.own j b d' e
  refine⟨q,.inl r,bg.kp (Kp.of_same hs) ?_ (bg.more hM o)⟩
  cases z:H b with
  | none=>exact absurd z (s.thr b r)
  | some o'=>exact hs b o' z
theorem Sx.subA (s:Sx K G A δ P σ H) (hA:∀ b,A' b→A b) (ho:∀ (i:Nat) a d,δ[i]?=some (.own a d)→A' a):Sx K G A' δ P σ H:=by
 have hM:∀ b,(G.M0 b∨A' b)→(G.M0 b∨A b)∨H b=none:=fun b h=>.inl (h.elim .inl fun z=>.inr (hA b z))
 exact⟨s.old,s.stay,s.m0,s.pm,fun b h=>s.new b (hA b h),fun b h=>s.thr b (hA b h),s.len,fun i d e=>let ⟨v,q,r⟩:=s.dat i d e;⟨v,q,Rep.more hM _ _ r⟩,fun i a d e=>let ⟨q,_,o⟩:=s.own i a d e;⟨q,ho i a d e,bg.more hM o⟩,s.inj,
  fun p hp=>Rep.more hM _ _ (s.pnd p hp)⟩
theorem Sx.poke {p:Addr} {vs ws:List V} (s:Sx K G A δ P σ H) (hp:A p) (hv:H p=some (.lst vs)) (hno:∀ (i:Nat) d,δ[i]?≠some (.own p d)):Sx K G A δ P σ (upd H p (.lst ws)):=by
 have hk:∀ b o,b≠p→H b=some o→upd H p (.lst ws) b=some o:=fun b o n e=>by rw [ap n];exact e
 have kp:Kp (fun b=>G.M0 b∨A b) H (upd H p (.lst ws)):=⟨fun b o e n=>hk b o (fun z=>n (.inr (by rw [z];exact hp))) e,fun b xs e=>hk b _ (fun z=>by rw [z,hv] at e;cases e) e,fun b o u e=>hk b _ (fun z=>by rw [z,hv] at e;cases e) e⟩
 have stay:∀ b,H b≠none→upd H p (.lst ws) b≠none:=fun b e=>by
  by_cases z:b=p
  ·rw [z,ak];exact fun z=>nomatch z
  ·rw [ap z];exact e
 have na:∀ b o,G.H0 b=some o→¬ G.Pm b→b≠p:=fun b o e n z=>(s.new p hp).elim (fun q=>by rw [z] at e;rw [e] at q;cases q) fun q=>n (by rw [z];exact q)
 refine⟨fun b o e n=>hk b o (na b o e n) (s.old b o e n),fun b e=>stay b (s.stay b e),s.m0,s.pm,s.new,fun b e=>stay b (s.thr b e),s.len,fun i d e=>let ⟨v,q,r⟩:=s.dat i d e;⟨v,q,Rep.kp kp _ _ r⟩,fun i a d e=>?_,s.inj,fun q hq=>Rep.kp kp _ _ (s.pnd q hq)⟩
 obtain ⟨q,r,o⟩:=s.own i a d e
 have ne:a≠p:=fun z=>by subst z;exact hno i d e
 exact⟨q,r,bg.kp kp (by rw [ap ne]) o⟩
end
def capO:Option Sl→Sl
 | some (.dat d)=>.dat d
 | _=>.no
def capL (caps:List (Nat×Str)) (δ:En):En:=caps.map fun p=>capO δ[p.1]?
def oS:Option D→Sl
 | none=>.no
 | some d=>.dat d
def allT:Nat→(List Sl→Prop)→Prop
 | 0,p=>p []
 | n + 1,p=>∀ t:Option D,allT n fun ts=>p (oS t :: ts)
def okT:Nat→En→En→Prop
 | 0,δ,c=>δ=c
 | n + 1,.dat _ :: r,c=>okT n r c
 | _ + 1,_,_=>False
abbrev TDC:=En→(List D→En→Prop)→Prop
def r8 (src:TDC) (nt:Nat) (caps:List (Nat×Str)) (g:TDG) (tc:TDT) (te:TDE):TDE:=fun δ R=>src δ fun xs δ1=>xs.length≤9000∧∃ f:D→Option D,
 (∀ x∈xs,allT nt fun ts=>g x (ts++capL caps δ1) fun δ2=>tc δ2 fun b δ3=>if b=true then te δ3 (wd fun y δ4=>okT nt δ4 (capL caps δ1)∧f x=some y) else okT nt δ3 (capL caps δ1)∧f x=none)∧R (.d (.lst (xs.filterMap f))) δ1
theorem iX:∀ {n:Nat} {p:List Sl→Prop},allT n p→∀ ts:List (Option D),ts.length=n→p (ts.map oS)
 | 0,p,h,ts,e=>by rw [List.length_eq_zero_iff.mp e];exact h
 | n + 1,p,h,[],e=>by cases e
 | n + 1,p,h,t :: ts,e=>iX (h t) ts (Nat.succ.inj e)
theorem hJ:∀ {n:Nat} {δ c:En},okT n δ c→∃ ts:List (Option D),ts.length=n∧δ=ts.map oS++c
 | 0,δ,c,h=>⟨[],rfl,h⟩
 | n + 1,[],c,h=>h.elim
 | n + 1,.dat d :: r,c,h=>by
  obtain ⟨ts,e,q⟩:=hJ (n:=n) (δ:=r) h
  exact⟨some d :: ts,by rw [uM,e],by rw [q];rfl⟩
 | n + 1,.no :: r,c,h=>h.elim
 | n + 1,.own _ _ :: r,c,h=>h.elim
section
variable {K:PySem.W.Frag} {G:Gf} {δ:List Sl} {P:List (D×V)} {σ:L2.St}
theorem m9 {caps:List (Nat×Str)} {i:Nat} {d:D} (e:(capL caps δ)[i]?=some (.dat d)):∃ p,caps[i]?=some p∧δ[p.1]?=some (.dat d):=by
 unfold capL at e
 rw [uN] at e
 cases hc:caps[i]? with
 | none=>rw [hc] at e;cases e
 | some p =>
  rw [hc] at e
  refine⟨p,rfl,?_⟩
  have e:=Option.some.inj e
  cases q:δ[p.1]? with
  | none=>simp [q,capO] at e
  | some z =>
   cases z with
   | dat d'=>simp only [q,capO] at e;cases e;rfl
   | no=>simp [q,capO] at e
   | own _ _=>simp [q,capO] at e
theorem fX {caps:List (Nat×Str)} {i:Nat} {a:Addr} {d:D} (e:(capL caps δ)[i]?=some (.own a d)):False:=by
 unfold capL at e
 rw [uN] at e
 cases hc:caps[i]? with
 | none=>rw [hc] at e;cases e
 | some p =>
  rw [hc] at e
  have e:=Option.some.inj e
  cases q:δ[p.1]? with
  | none=>simp [q,capO] at e
  | some z=>cases z<;>simp [q,capO] at e
theorem t4 {A:Addr→Prop} {nt:Nat} {caps:List (Nat×Str)} {H:Hp} (s:Sx K G A δ P σ H):Sx K ⟨fun b=>G.M0 b∨A b,H,fun _=>False⟩ (fun _=>False) ((List.replicate nt none).map oS++capL caps δ) [] (capS nt caps σ) H:=by
 have hM:∀ b,((G.M0 b∨A b)∨False)→(G.M0 b∨A b)∨H b=none:=fun b h=>h.elim .inl fun z=>z.elim
 have hr:(List.replicate nt none).map oS=List.replicate nt Sl.no:=by rw [List.map_replicate];rfl
 rw [hr]
 refine⟨fun b o e _=>e,fun b e=>e,s.mem,fun b h=>h.elim,fun b h=>h.elim,fun b h=>h.elim,?_,fun i d e=>?_,fun i a d e=>?_,fun i j a d e h1 _=>?_,fun p hp=>(nomatch hp)⟩
 ·unfold capL capS
  rw [uK,uK,uS,uS,uA,uA]
 ·by_cases hi:i < nt
  ·rw [uV (by rw [uS];exact hi),List.getElem?_replicate,if_pos hi] at e
   cases e
  ·rw [uU (by rw [uS];omega),uS] at e
   obtain ⟨p,hp,hd⟩:=m9 e
   obtain ⟨v,q,r⟩:=s.dat _ _ hd
   refine⟨v,?_,Rep.more hM _ _ r⟩
   unfold capS
   rw [uU (by rw [uS];omega),uS,uN,hp]
   show some ((σ[p.1]?).join)=_
   rw [q]
   rfl
 all_goals
  exfalso
 ·by_cases hi:i < nt
  ·rw [uV (by rw [uS];exact hi),List.getElem?_replicate,if_pos hi] at e
   cases e
  ·rw [uU (by rw [uS];omega)] at e
   exact fX e
 ·by_cases hi:i < nt
  ·rw [uV (by rw [uS];exact hi),List.getElem?_replicate,if_pos hi] at h1
   cases h1
  ·rw [uU (by rw [uS];omega)] at h1
   exact fX h1
theorem nI {ts:List (Option D)} {caps:List (Nat×Str)} {i:Nat} {a:Addr} {d:D} (e:(ts.map oS++capL caps δ)[i]?=some (.own a d)):False:=by
 by_cases hi:i < ts.length
 ·rw [uV (by rw [uA];exact hi),uN] at e
  cases hc:ts[i]? with
  | none=>rw [hc] at e;cases e
  | some o =>
   rw [hc] at e
   cases o<;>cases e
 ·rw [uU (by rw [uA];omega)] at e
  exact fX e
theorem re_S {M:Addr→Prop} {A2:Addr→Prop} {ts:List (Option D)} {caps:List (Nat×Str)} {H H5 H6:Hp} {P2:List (D×V)} {σ2:L2.St} (s:Sx K ⟨M,H,fun _=>False⟩ A2 (ts.map oS++capL caps δ) P2 σ2 H5) (k:Kp M H5 H6) (hm:∀ b,M b→H6 b≠none) :
  Sx K ⟨M,H6,fun _=>False⟩ (fun _=>False) (ts.map oS++capL caps δ) [] σ2 H6:=by
 have hM:∀ b,(M b∨False)→(M b∨A2 b)∨H5 b=none:=fun b h=>.inl (h.elim .inl fun z=>z.elim)
 have k':Kp (fun b=>M b∨False) H5 H6:=⟨fun b o e n=>k.un b o e fun z=>n (.inl z),k.tu,k.fr⟩
 exact⟨fun b o e _=>e,fun b e=>e,hm,fun b h=>h.elim,fun b h=>h.elim,fun b h=>h.elim,s.len,fun i d e=>let ⟨v,q,r⟩:=s.dat i d e;⟨v,q,Rep.kp k' _ _ (Rep.more hM _ _ r)⟩,fun i a d e=>(nI e).elim,
  fun i j a d e h1 _=>(nI h1).elim,fun p hp=>(nomatch hp)⟩
theorem e8 {xs:List D} {f:D→Option D} {i:Nat} {x:D} (h:xs[i]?=some x):(xs.take (i + 1)).filterMap f=(xs.take i).filterMap f++(match f x with | some y=>[y] | none=>[]):=by
 rw [List.take_add_one,h,List.filterMap_append]
 cases e:f x<;>simp [e]
theorem jm {J:It} {xs:List D} {f:D→Option D} {nt:Nat} {caps:List (Nat×Str)} {g:TDG} {tc:TDT} {te:TDE} {H1:Hp} {Q:VK} (s:S K G δ P σ H1) (hz:xs.length≤9000)
  (hgo:∀ A i H,Sx K G A δ P σ H→i < xs.length→J.go i H) (hst:∀ A H,Sx K G A δ P σ H→J.stop xs.length H)
  (hyl:∀ A i x H H2,Sx K G A δ P σ H→i < xs.length→J.yld i H x H2→Same H H2∧∃ d,xs[i]?=some d∧Rep K (fun b=>G.M0 b∨A b) H2 d x)
  (hf:∀ x∈xs,allT nt fun ts=>g x (ts++capL caps δ) fun δ2=>tc δ2 fun b δ3=>if b=true then te δ3 (wd fun y δ4=>okT nt δ4 (capL caps δ)∧f x=some y) else okT nt δ3 (capL caps δ)∧f x=none)
  (p:Addr) (hp:H1 p=none) (k:∀ (A:Addr→Prop) acc H',¬ (G.M0 p∨A p)→(∀ (i:Nat) a d,δ[i]?=some (.own a d)→A a)→Sx K G (fun b=>A b∨b=p) δ P σ H'→H' p=some (.lst acc)→Reps K (fun b=>G.M0 b∨(A b∨b=p)) H' (xs.filterMap f) acc→Q (.ref p) H') :
  ∃ W:Nat→Nat→List V→L2.St→Hp→Prop,(∃ m,W 0 m [] (capS nt caps σ) (upd H1 p (.lst [])))∧∀ i m acc σ' H',W i m acc σ' H'→(J.stop i H'∧Q (.ref p) H')∨(J.go i H'∧∀ x H2,J.yld i H' x H2 →
   upG K g x σ' H2 fun σ2 H3=>upT K tc σ2 H3 fun b H4=>if b=true then up K te σ2 H4 fun y H5=>H5 p=some (.lst acc)∧acc.length < sizeLine∧∃ m',m' < m∧W (i + 1) m' (acc++[y]) σ2 (upd H5 p (.lst (acc++[y]))) else ∃ m',m' < m∧W (i + 1) m' acc σ2 H4):=by
 obtain ⟨A0,x0⟩:=s
 have hA0:¬ (G.M0 p∨A0 p):=fun z=>x0.mem p z hp
 have hno:∀ (i:Nat) d,δ[i]?≠some (.own p d):=fun i d e=>hA0 (.inr (x0.own i p d e).2.1)
 have x1:=x0.addA hp (al hp (.lst [])) (by rw [ak];exact fun z=>nomatch z)
 refine⟨fun i m acc σ' H'=>i≤xs.length∧m=xs.length - i∧acc.length≤i∧H' p=some (.lst acc)∧Sx K G (fun b=>A0 b∨b=p) δ P σ H'∧Reps K (fun b=>G.M0 b∨(A0 b∨b=p)) H' ((xs.take i).filterMap f) acc ∧
  ∃ ts:List (Option D),ts.length=nt∧Sx K ⟨fun b=>G.M0 b∨(A0 b∨b=p),H',fun _=>False⟩ (fun _=>False) (ts.map oS++capL caps δ) [] σ' H',⟨xs.length,Nat.zero_le _,rfl,Nat.le_refl _,ak,x1,by rw [List.take_zero];exact Reps.nil,List.replicate nt none,uS,t4 x1⟩,?_⟩
 rintro i m acc σ' H' ⟨hi,rfl,hal,hac,x,rs,ts,hts,sx⟩
 by_cases hlt:i < xs.length
 ·refine .inr ⟨hgo _ i H' x hlt,fun v H2 hy=>?_⟩
  obtain ⟨sm0,d,hd,rd⟩:=hyl _ i v H' H2 x hlt hy
  replace sx:=re_S sx (Kp.of_same sm0) (x.same sm0).mem
  replace x:=x.same sm0
  replace hac:=sm0 _ _ hac
  replace rs:=Reps.kp (Kp.of_same sm0) _ _ rs
  clear sm0 hy
  have hmem:d∈xs:=uO hd
  refine⟨_,ts.map oS++capL caps δ,[],d,_,⟨_,sx.push (Rep.more (fun b z=>.inl (z.elim id fun q=>q.elim)) _ _ rd)⟩,iX (hf d hmem) ts hts,fun δ2 h2 σ2 H3 s2=>?_⟩
  refine⟨_,_,[],_,s2,h2,fun b δ3 h3 H4 s3=>?_⟩
  have fmS:=e8 (f:=f) hd
  have hM1:∀ b,(G.M0 b∨(A0 b∨b=p))→H2 b≠none:=x.mem
  cases b with
  | false =>
   obtain ⟨ok3,hn⟩:=h3
   rw [hn,List.append_nil] at fmS
   obtain ⟨ts3,hts3,e3⟩:=hJ ok3
   subst e3
   obtain ⟨A3,y3⟩:=s3
   have sm:Same H2 H4:=fun b o e=>y3.old b o e id
   have x4:=x.same sm
   exact⟨xs.length - (i + 1),by omega,hlt,rfl,by omega,sm _ _ hac,x4,by rw [fmS];exact Reps.kp (Kp.of_same sm) _ _ rs,ts3,hts3,re_S y3 Kp.refl x4.mem⟩
  | true =>
   refine up.mk (P:=[]) s3 h3 fun y δ4 h4 yv H5 s4=>?_
   obtain ⟨ok4,hy⟩:=h4
   rw [hy] at fmS
   obtain ⟨ts4,hts4,e4⟩:=hJ ok4
   subst e4
   obtain ⟨A4,y4⟩:=s4
   have sm:Same H2 H5:=fun b o e=>y4.old b o e id
   have x5:=x.same sm
   have hac5:=sm _ _ hac
   have ry:Rep K (fun b=>G.M0 b∨(A0 b∨b=p)) H5 y yv:=Rep.more (fun b z=>.inl (.inl z)) _ _ (y4.pnd (y,yv) (by simp))
   have x6:=x5.poke (p:=p) (ws:=acc++[yv]) (.inr rfl) hac5 hno
   have kp:Kp (fun b=>G.M0 b∨(A0 b∨b=p)) H5 (upd H5 p (.lst (acc++[yv]))):=by
    have hk:∀ b o,b≠p→H5 b=some o→upd H5 p (.lst (acc++[yv])) b=some o:=fun b o n e=>by rw [ap n];exact e
    exact⟨fun b o e n=>hk b o (fun z=>n (.inr (.inr z))) e,fun b xs e=>hk b _ (fun z=>by rw [z,hac5] at e;cases e) e,fun b o u e=>hk b _ (fun z=>by rw [z,hac5] at e;cases e) e⟩
   refine⟨hac5,Nat.lt_of_le_of_lt (uD hal hi) (gU hz),xs.length - (i + 1),by omega,hlt,rfl,by rw [uK,List.length_singleton];omega,ak,x6,?_,ts4,hts4,re_S y4 kp x6.mem⟩
   rw [fmS]
   exact Reps.kp kp _ _ (Reps.append _ _ _ _ (Reps.kp (Kp.of_same sm) _ _ rs) (Reps.one ry))
 ·have e:i=xs.length:=by omega
  subst e
  rw [uR] at rs
  exact .inl ⟨hst _ H' x,k A0 acc H' hA0 (fun i a d e=>(x0.own i a d e).2.1) x hac rs⟩
theorem ke {J:It} {xs:List D} {f:D→Option D} {nt:Nat} {caps:List (Nat×Str)} {g:TDG} {tc:TDT} {te:TDE} {H1:Hp} {Q:VK} (s:S K G δ P σ H1) (hz:xs.length≤9000)
  (hgo:∀ A i H,Sx K G A δ P σ H→i < xs.length→J.go i H) (hst:∀ A H,Sx K G A δ P σ H→J.stop xs.length H)
  (hyl:∀ A i x H H2,Sx K G A δ P σ H→i < xs.length→J.yld i H x H2→Same H H2∧∃ d,xs[i]?=some d∧Rep K (fun b=>G.M0 b∨A b) H2 d x)
  (hf:∀ x∈xs,allT nt fun ts=>g x (ts++capL caps δ) fun δ2=>tc δ2 fun b δ3=>if b=true then te δ3 (wd fun y δ4=>okT nt δ4 (capL caps δ)∧f x=some y) else okT nt δ3 (capL caps δ)∧f x=none)
  (k:∀ v H',S K G δ ((.lst (xs.filterMap f),v) :: P) σ H'→Q v H') (p:Addr) (hp:H1 p=none) :
  ∃ W:Nat→Nat→List V→L2.St→Hp→Prop,(∃ m,W 0 m [] (capS nt caps σ) (upd H1 p (.lst [])))∧∀ i m acc σ' H',W i m acc σ' H'→(J.stop i H'∧Q (.ref p) H')∨(J.go i H'∧∀ x H2,J.yld i H' x H2 →
   upG K g x σ' H2 fun σ2 H3=>upT K tc σ2 H3 fun b H4=>if b=true then up K te σ2 H4 fun y H5=>H5 p=some (.lst acc)∧acc.length < sizeLine∧∃ m',m' < m∧W (i + 1) m' (acc++[y]) σ2 (upd H5 p (.lst (acc++[y]))) else ∃ m',m' < m∧W (i + 1) m' acc σ2 H4) :=
 jm s hz hgo hst hyl hf p hp fun A acc H' hA ho x hac rs=>k (.ref p) H' ⟨A,(x.subA (fun b z=>.inl z) ho).push (by
  unfold Rep
  exact⟨p,acc,rfl,hA,hac,Reps.more (fun b z=>.inl (z.elim .inl fun q=>.inr (.inl q))) _ _ rs⟩)⟩
end
def sW (t:TDE):TDC:=fun δ R=>t δ (wd fun d δ1=>∃ xs,d=.lst xs∧R xs δ1)
def tG (t:TDE):TDC:=fun δ R=>t δ (wd fun d δ1=>∃ xs,d=.tup xs∧R xs δ1)
def sh (t:TDA):TDC:=fun δ R=>t δ fun ds δ1=>∃ j:Int,ds=[.int j]∧-(2 ^ 62)≤j∧j < 2 ^ 62∧R ((List.range j.toNat).map fun (i:Nat)=>D.int (i:Int)) δ1
def CI (X:Cx) (tg it:Expr) (src:TDC):Prop:=∃ wi,PI X tg it wi∧∀ (G:Gf) (δ:En) (P:List (D×V)) (σ:L2.St) (H:Hp) (R:List D→En→Prop) (Q:It→Hp→Prop),S X.K G δ P σ H→src δ R →
  (∀ xs δ1,R xs δ1→∀ (J:It) (P1:List (D×V)) (H1:Hp),(∀ q∈P,q∈P1)→S X.K G δ1 P1 σ H1→(∀ A δ σ i H,Sx X.K G A δ P1 σ H→i < xs.length→J.go i H)→(∀ A δ σ H,Sx X.K G A δ P1 σ H→J.stop xs.length H) →
    (∀ A δ σ i x H H2,Sx X.K G A δ P1 σ H→i < xs.length→J.yld i H x H2→Same H H2∧∃ d,xs[i]?=some d∧Rep X.K (fun b=>G.M0 b∨A b) H2 d x)→Q J H1)→wi σ H Q
section
variable {X:Cx} {tg e:Expr} {te:TDE} {ta:TDA}
theorem kS (h:DE X e te):CI X tg e (sW te):=⟨_,iq h,fun G δ P σ H R Q s hs k=>up.mk s hs fun d δ1 h1 v H1 s1=>by
 obtain ⟨xs,e,r⟩:=h1
 subst e
 have hat:∀ A δ σ H,Sx X.K G A δ ((.lst xs,v) :: P) σ H→∃ a vs,v=.ref a∧H a=some (.lst vs)∧Reps X.K (fun b=>G.M0 b∨A b) H xs vs:=fun A δ σ H x=>by
  have q:=x.pnd (.lst xs,v) (by simp)
  unfold Rep at q
  obtain ⟨a,vs,e,_,l,r⟩:=q
  exact⟨a,vs,e,l,r⟩
 obtain ⟨A1,x1⟩:=id s1
 obtain ⟨a,vs0,rfl,l0,_⟩:=hat _ _ _ _ x1
 refine⟨a,rfl,⟨vs0,SqL.of l0⟩,k xs δ1 r _ _ H1 (fun q hq=>by simp [hq]) s1 (fun A δ σ i H x hi=>?_) (fun A δ σ H x=>?_) fun A δ σ i y H H2 x hi hy=>?_⟩
 ·obtain ⟨b,vs,e,l,r⟩:=hat _ _ _ _ x
  cases e
  obtain ⟨w',hw,_⟩:=Reps.get _ _ r i xs[i] (by simp [hi])
  exact⟨vs,w',SqL.of l,hw⟩
 ·obtain ⟨b,vs,e,l,r⟩:=hat _ _ _ _ x
  cases e
  exact⟨vs,SqL.of l,by rw [Reps.length _ _ r];exact Nat.le_refl _⟩
 ·obtain ⟨b,vs,e,l,r⟩:=hat _ _ _ _ x
  cases e
  obtain ⟨e,hy⟩:=hy
  obtain ⟨w',hw,rw'⟩:=Reps.get _ _ r i xs[i] (by simp [hi])
  have z:=hy vs (SqL.of l)
  rw [hw] at z
  cases z
  subst e
  exact⟨Same.refl _,xs[i],by simp [hi],rw'⟩⟩
theorem nG (h:DE X e te):CI X tg e (tG te):=⟨_,tJ h,fun G δ P σ H R Q s hs k=>up.mk s hs fun d δ1 h1 v H1 s1=>by
 obtain ⟨xs,e,r⟩:=h1
 subst e
 have hat:∀ A δ σ H,Sx X.K G A δ ((.tup xs,v) :: P) σ H→∃ a vs,v=.ref a∧SqT X.K H a vs∧Reps X.K (fun b=>G.M0 b∨A b) H xs vs:=fun A δ σ H x=>by
  have q:=x.pnd (.tup xs,v) (by simp)
  unfold Rep at q
  exact q
 obtain ⟨A1,x1⟩:=id s1
 obtain ⟨a,vs0,rfl,l0,_⟩:=hat _ _ _ _ x1
 refine⟨a,rfl,⟨vs0,l0⟩,k xs δ1 r _ _ H1 (fun q hq=>by simp [hq]) s1 (fun A δ σ i H x hi=>?_) (fun A δ σ H x=>?_) fun A δ σ i y H H2 x hi hy=>?_⟩
 ·obtain ⟨b,vs,e,l,r⟩:=hat _ _ _ _ x
  cases e
  obtain ⟨w',hw,_⟩:=Reps.get _ _ r i xs[i] (by simp [hi])
  exact⟨vs,w',l,hw⟩
 ·obtain ⟨b,vs,e,l,r⟩:=hat _ _ _ _ x
  cases e
  exact⟨vs,l,by rw [Reps.length _ _ r];exact Nat.le_refl _⟩
 ·obtain ⟨b,vs,e,l,r⟩:=hat _ _ _ _ x
  cases e
  obtain ⟨e,hy⟩:=hy
  obtain ⟨w',hw,rw'⟩:=Reps.get _ _ r i xs[i] (by simp [hi])
  have z:=hy vs l
  rw [hw] at z
  cases z
  subst e
  exact⟨Same.refl _,xs[i],by simp [hi],rw'⟩⟩
theorem mv {a:Expr} {p pos:Pos} (hg:Gl X "range") (hm:X.mg "range"=none) (ha:DA X [a] ta) (hs:starEach [a] X.env=[(false,eval a X.env)]:=by rfl):CI X tg (.Call (.Name "range" p) [a] [] pos) (sh ta) :=
 ⟨_,gO hg hm ha hs,fun G δ P σ H R Q s hs k=>⟨G,δ,P,_,s,hs,fun ds δ1 h1 vs H1 hl s1=>by
  obtain ⟨j,e,h1,h2,r⟩:=h1
  subst e
  match vs,hl with
  | [v],_ =>
   have q:v=.int j:=by
    obtain ⟨A,x⟩:=s1
    exact aH (x.pnd (.int j,v) (by simp))
   subst q
   refine⟨j,rfl,h1,h2,k _ δ1 r _ P H1 (fun q hq=>hq) (s1.sub fun p hp=>by simp [hp]) (fun A δ σ i H x hi=>?_) (fun A δ σ H x=>?_) fun A δ σ i y H H2 x hi hy=>?_⟩
   ·rw [uA,List.length_range] at hi
    exact hi
   ·rw [uA,List.length_range]
    exact Nat.le_refl _
   ·rw [uA,List.length_range] at hi
    obtain ⟨e,hy⟩:=hy
    subst e
    refine⟨Same.refl _,.int i,by rw [uN,List.getElem?_range hi];rfl,?_⟩
    unfold Rep
    rw [hy,Int.zero_add]⟩⟩
def DF (X:Cx) (ifs:List Expr) (t:TDT):Prop:=PF X ifs (upT X.K t)
theorem gI:DF X [] (fun δ R=>R true δ):=fun pins s σ H Q I ⟨G,δ,P,R,s',h,k⟩=>rD pins s σ H Q I (k true δ h H s')
theorem rG {c:Expr} {t:TDT} (h:DT X c t):DF X [c] t:=rR h
theorem dr {elt tgt iter:Expr} {ifs:List Expr} {scope:Scope} {pos:Pos} {src:TDC} {cl:List (Str×Addr)} (tn:List Str) (caps:List (Nat×Str)) {g:TDG} {tc:TDT}
  (hcalm:X.calm=true) (hclos:closureFor scope X.env=pure cl) (hcell:∀ y∈scope.names,y.2≠.cell) (hkind:scope.kind=.function) (hnames:∀ y∈scope.names,y.2=.local→scope.names.lookup y.1=some .local)
  (hcl:∀ x c,cl.lookup x=some c→X.env.cells.lookup x=some c) (hhas:∀ x,((relabel scope X.env).names.lookup x=some .cell∨(relabel scope X.env).names.lookup x=some .free)→∃ c,cl.lookup x=some c)
  (hcap:∀ p∈caps,X.N[p.1]?=some p.2∧X.env.scope.names.lookup p.2=some .cell∧((relabel scope X.env).names.lookup p.2=some .cell∨(relabel scope X.env).names.lookup p.2=some .free))
  (hi:CI X.nox tgt iter src)
  (hb:∀ s2 H2 C fp pn,DG (fe X (tn++caps.map (·.2)) scope cl s2 H2 C fp pn) tgt g∧DF (fe X (tn++caps.map (·.2)) scope cl s2 H2 C fp pn) ifs tc∧DE (fe X (tn++caps.map (·.2)) scope cl s2 H2 C fp pn) elt te)
  (hs:∀ x,foldedSetIterable iter X.env x=pure x:=by intro _;rfl):DE X.nox (.ListComp elt [⟨tgt,iter,ifs,0⟩] scope pos) (r8 src tn.length caps g tc te):=by
 obtain ⟨wi,hi,hw⟩:=hi
 refine PE.imp (oG (g:=upG X.K g) (tc:=upT X.K tc) (te:=up X.K te) tn caps hcalm hclos hcell hkind hnames hcl hhas hcap hi hb hs) fun σ H Q ⟨G,δ,P,R,s,h,k,_⟩=>?_
 refine hw G δ P σ H _ _ s h fun xs δ1 ⟨hz,f,hf,r⟩ J P1 H1 hP s1 hgo hst hyl p hp=>?_
 exact ke s1 hz (fun A i H x hi=>hgo A _ _ i H x hi) (fun A H x=>hst A _ _ H x) (fun A i x H H2 s hi hy=>hyl A _ _ i x H H2 s hi hy) hf (fun v H' s'=>k _ δ1 r v H' (s'.sub fun q hq=>by
  rcases uG.mp hq with rfl | hq
  ·simp
  ·exact uB _ (hP q hq))) p hp
end
def rl (cells:List (Str×Addr)):List (Str×Addr)→Prop
 | []=>True
 | y :: r=>cells.lookup y.1=some y.2∧rl cells r
theorem d3 {cells:List (Str×Addr)}:∀ {cl:List (Str×Addr)},rl cells cl→∀ x c,cl.lookup x=some c→cells.lookup x=some c
 | [],_,x,c,h=>by cases h
 | y :: r,⟨h1,h2⟩,x,c,h=>by
  rw [List.lookup_cons] at h
  cases e:x == y.1 with
  | true =>
   rw [e] at h
   have e:=eq_of_beq e
   cases h
   rw [e]
   exact h1
  | false =>
   rw [e] at h
   exact d3 h2 x c h
theorem fu {names:List (Str×NameKind)} {cl:List (Str×Addr)} (h:(names.all fun y=>!(y.2 == .cell || y.2 == .free) || (cl.lookup y.1).isSome)=true):∀ x,(names.lookup x=some .cell∨names.lookup x=some .free)→∃ c,cl.lookup x=some c:=fun x hx=>by
 have key:∀ (ns:List (Str×NameKind)) k,ns.lookup x=some k→(x,k)∈ns:=fun ns=>by
  induction ns with
  | nil=>intro k h;cases h
  | cons y r ih =>
   intro k h
   rw [List.lookup_cons] at h
   cases e:x == y.1 with
   | true =>
    rw [e] at h
    have e:=eq_of_beq e
    cases h
    rw [e]
    exact uF ..
   | false =>
    rw [e] at h
    exact uB _ (ih k h)
 have go:∀ k,(k=.cell∨k=.free)→names.lookup x=some k→∃ c,cl.lookup x=some c:=fun k hk e=>by
  have m:=key _ _ e
  have q:=List.all_eq_true.mp h _ m
  have hb:((k == NameKind.cell || k == .free))=true:=by rcases hk with rfl | rfl<;>rfl
  simp only [hb,Bool.not_true,Bool.false_or] at q
  exact Option.isSome_iff_exists.mp q
 rcases hx with e | e
 ·exact go _ (.inl rfl) e
 ·exact go _ (.inr rfl) e
def nD (p:Nat×Str→Prop):List (Nat×Str)→Prop
 | []=>True
 | y :: r=>p y∧nD p r
theorem cP {p:Nat×Str→Prop}:∀ {l:List (Nat×Str)},nD p l→∀ y∈l,p y
 | [],_,y,h=>by cases h
 | z :: r,⟨h1,h2⟩,y,h=>by
  rcases uG.mp h with rfl | h
  ·exact h1
  ·exact cP h2 y h
end DL
namespace DL
open PySem PySem.Spec PyProof.Rows L2
def spN (K:PySem.W.Frag) (f:List D→(D→Prop)→Prop):Sp:=fun vs H Q _=>∃ (M:Addr→Prop) (ds:List D) (R:D→Prop),(∀ b,M b→H b≠none)∧Reps K M H ds vs∧f ds R ∧
 ∀ d,R d→∀ a H',Same H H'→H a=none→bg K (fun b=>M b∨b=a) H' a d→Q (.ref a) H'
abbrev FO:=D→List D→(D→D→Prop)→Prop
def spO (K:PySem.W.Frag) (f:FO):Sp:=fun vs H Q _=>∃ (M:Addr→Prop) (a:Addr) (d0:D) (vs':List V) (ds:List D) (R:D→D→Prop),vs=.ref a :: vs'∧(∀ b,M b→H b≠none)∧¬ M a∧bg K (fun b=>M b∨b=a) H a d0∧Reps K (fun b=>M b∨b=a) H ds vs'∧f d0 ds R ∧
 ∀ r d1,R r d1→∀ v H',(∀ b o,b≠a→H b=some o→H' b=some o)→bg K (fun b=>M b∨b=a) H' a d1→Rep K (fun b=>M b∨b=a) H' r v→Q v H'
theorem oj {K:PySem.W.Frag} {f:List D→(D→Prop)→Prop} {vs:List V} {H:Hp} {Q:VK} {E:XK} (h:spD K f vs H Q E):spN K f vs H Q E:=by
 obtain ⟨M,ds,R,m,rs,hf,k⟩:=h
 exact⟨M,ds,R,m,rs,hf,fun d r a H' sm fr ow=>k d r (.ref a) H' sm (ow.rep (fun z=>m a z fr) fun b z=>.inl z)⟩
section
variable {P:Program} {w:World} {K:PySem.W.Frag} {mg:Str→Option Value} {base:Heap}
theorem Cal.imp {k:Nat} {x:Str} {ps:List Str} {sp sp':Sp} (C:Cal P w K mg base k x ps sp) (h:∀ vs H Q E,sp' vs H Q E→sp vs H Q E):Cal P w K mg base k x ps sp':=by
 obtain ⟨a,fd,F,b,kp,m⟩:=C.ex
 exact⟨a,fd,F.imp h,b,kp,m⟩
theorem Cal.pure {k:Nat} {x:Str} {ps:List Str} {f:List D→(D→Prop)→Prop} (C:Cal P w K mg base k x ps (spN K f)):Cal P w K mg base k x ps (spD K f):=C.imp fun _ _ _ _ h=>oj h
theorem fY {x:Str} {st:Stmt} {ps:List Str} {f:List D→(D→Prop)→Prop} (F:Fd K mg x st ps) (k:Nat) (h:∀ ds R,¬ f ds R):Cal P w K mg base k x ps (spD K f):=by
 obtain ⟨a,fd,Fu,b,m⟩:=F.ex
 have no:∀ vs H Q E,¬ spD K f vs H Q E:=fun vs H Q E ⟨_,ds,R,_,_,hf,_⟩=>h ds R hf
 exact⟨a,fd,⟨fun vs H Q E h=>absurd h (no vs H Q E),fun A outer s H args us vs Q E _ _ _ _ h=>absurd h (no vs H Q E)⟩,b,Fu.kp,m⟩
theorem fn_N {x:Str} {st:Stmt} {N ps:List Str} {k:Nat} {f:List D→(D→Prop)→Prop} (F:Fd K mg x st ps) (Sc:ar N ps (ah st)) (len:∀ ds R,f ds R→ds.length=ps.length)
    (hbody:∀ (a:Addr) (cdv:Value) (A:Around) (outer:List Env) (s:Shared) (H:Hp) (E:XK) (ds:List D) (R:D→Prop),Room k (A.deeper (envOfC x (ah st) s.heap.objs.size a cdv))→f ds R →
      ∃ t,DSs (cxOf CX0 P w K mg base N x (ah st) a cdv A outer s H E).nox (aM st) t∧t { nx:=fun _=>False,rt:=fun _ _=>False,ro:=R } (cn N ds)) :
    Cal P w K mg base (k + 1) x ps (spN K f):=by
  obtain ⟨a,fd,Fu,b,m⟩:=F.ex
  refine⟨a,fd,Fu.ok Sc (fun vs H Q E h=>?_) (fun cdv A outer s H vs Q E hr h=>?_),b,Fu.kp,m⟩
  · obtain ⟨M,ds,R,hm,rs,hf,hk⟩:=h
    rw [← Reps.length _ _ rs]
    exact len ds R hf
  · obtain ⟨M,ds,R,hm,rs,hf,hk⟩:=h
    obtain ⟨t,ht,hq⟩:=hbody a cdv A outer s H E ds R hr hf
    refine⟨_,ht,⟨M,H,fun _=>False⟩,cn N ds,[],_,hZ N hm rs,hq,fun _ h=>h.elim,⟨fun _ _ h=>h.elim,fun d r a' H' ⟨o1,o2,o3,o4⟩=>hk d r a' H' (fun b o e=>o1 b o e id) (o2.elim id fun z=>z.elim) o4,fun _ _ _ z=>z.elim⟩,fun _ h=>h.elim,fun _ h=>h.elim,fun z=>z.elim⟩
theorem mL {M:Addr→Prop} {a:Addr} {d0:D} {ds1 ds2:List D} {vs1 vs2:List V} {H:Hp} (N:List Str) (m:∀ b,M b→H b≠none) (na:¬ M a) (ow:bg K (fun b=>M b∨b=a) H a d0) (r1:Reps K (fun b=>M b∨b=a) H ds1 vs1) (r2:Reps K (fun b=>M b∨b=a) H ds2 vs2) :
  S K ⟨M,H,fun b=>b=a⟩ (ds1.map Sl.dat++Sl.own a d0 :: (ds2.map Sl.dat++List.replicate (N.length - (ds1.length + 1 + ds2.length)) Sl.no)) [] (L2.start N (vs1++.ref a :: vs2)) H:=by
 have hl1:=Reps.length _ _ r1
 have hl2:=Reps.length _ _ r2
 have hHa:H a≠none:=by
  cases d0 with
  | lst ds=>obtain ⟨vs,q,_⟩:=ow;rw [q];exact fun z=>nomatch z
  | dct ks ds=>obtain ⟨vs,q,_⟩:=ow;rw [q];exact fun z=>nomatch z
  | _=>exact ow.elim
 have place:∀ (i:Nat) z,(ds1.map Sl.dat++Sl.own a d0 :: (ds2.map Sl.dat++List.replicate (N.length - (ds1.length + 1 + ds2.length)) Sl.no))[i]?=some z →
   (∃ d,ds1[i]?=some d∧z=.dat d)∨(i=ds1.length∧z=.own a d0)∨(∃ d,ds1.length + 1≤i∧ds2[i - (ds1.length + 1)]?=some d∧z=.dat d)∨z=.no:=fun i z e=>by
  by_cases h1:i < ds1.length
  ·rw [uV (by rw [uA];exact h1),uN] at e
   cases hd:ds1[i]? with
   | none=>rw [hd] at e;cases e
   | some d=>rw [hd] at e;exact .inl ⟨d,rfl,(Option.some.inj e).symm⟩
  ·rw [uU (by rw [uA];omega),uA] at e
   by_cases h2:i=ds1.length
   ·subst h2
    rw [Nat.sub_self,List.getElem?_cons_zero] at e
    exact .inr (.inl ⟨rfl,(Option.some.inj e).symm⟩)
   ·have e3:i - ds1.length=(i - (ds1.length + 1)) + 1:=by omega
    rw [e3,List.getElem?_cons_succ] at e
    by_cases h3:i - (ds1.length + 1) < ds2.length
    ·rw [uV (by rw [uA];exact h3),uN] at e
     cases hd:ds2[i - (ds1.length + 1)]? with
     | none=>rw [hd] at e;cases e
     | some d=>rw [hd] at e;exact .inr (.inr (.inl ⟨d,by omega,rfl,(Option.some.inj e).symm⟩))
    ·rw [uU (by rw [uA];omega),List.getElem?_replicate] at e
     split at e
     ·exact .inr (.inr (.inr (Option.some.inj e).symm))
     ·cases e
 have st:∀ i,i < (vs1++V.ref a :: vs2).length→(L2.start N (vs1++.ref a :: vs2))[i]?=(vs1++V.ref a :: vs2)[i]?.map some:=fun i hi=>by
  unfold L2.start
  rw [uV (by rw [uA];exact hi),uN]
 have hM:∀ b,(M b∨b=a)→(M b∨b=a)∨H b=none:=fun b h=>.inl h
 refine⟨fun b=>b=a,fun b o e _=>e,fun b e=>e,m,fun b h=>⟨by rw [h];exact hHa,by rw [h];exact na⟩,fun b h=>.inr h,fun b h=>by rw [h];exact hHa,?_,fun i d e=>?_,fun i a' d e=>?_,fun i j a' d e h1 h2=>?_,fun p hp=>(nomatch hp)⟩
 ·unfold L2.start
  simp only [uK,uA,uM,uS]
  omega
 ·rcases place i _ e with ⟨d',hd,z⟩ | ⟨_,z⟩ | ⟨d',hi,hd,z⟩ | z
  ·cases z
   obtain ⟨v,ev,rv⟩:=Reps.get _ _ r1 i d hd
   have hi:i < vs1.length:=(uL.mp ev).1
   exact⟨v,by rw [st i (by rw [uK];omega),uV hi,ev];rfl,rv⟩
  ·cases z
  ·cases z
   obtain ⟨v,ev,rv⟩:=Reps.get _ _ r2 _ d hd
   have hi2:i - (ds1.length + 1) < vs2.length:=(uL.mp ev).1
   refine⟨v,?_,rv⟩
   rw [st i (by rw [uK,uM];omega),uU (by omega),← hl1]
   have e3:i - ds1.length=(i - (ds1.length + 1)) + 1:=by omega
   rw [e3,List.getElem?_cons_succ,ev]
   rfl
  ·cases z
 ·rcases place i _ e with ⟨d',hd,z⟩ | ⟨hi,z⟩ | ⟨d',hi,hd,z⟩ | z
  ·cases z
  ·cases z
   subst hi
   refine⟨?_,rfl,ow⟩
   rw [st _ (by rw [uK,uM];omega),uU (by omega),hl1,Nat.sub_self]
   rfl
  ·cases z
  ·cases z
 ·have u:∀ i a' d,(ds1.map Sl.dat++Sl.own a d0 :: (ds2.map Sl.dat++List.replicate (N.length - (ds1.length + 1 + ds2.length)) Sl.no))[i]?=some (.own a' d)→i=ds1.length:=fun i a' d e=>by
   rcases place i _ e with ⟨d',hd,z⟩ | ⟨hi,z⟩ | ⟨d',hi,hd,z⟩ | z
   ·cases z
   ·exact hi
   ·cases z
   ·cases z
  rw [u i _ _ h1,u j _ _ h2]
theorem ib {M A':Addr→Prop} {a:Addr} {d:D} {H':Hp} (ha:A' a) (o:bg K (fun b=>M b∨A' b) H' a d):bg K (fun b=>M b∨b=a) H' a d:=bg.more (fun b z=>.inl (z.elim .inl fun e=>.inr (by rw [e];exact ha))) o
theorem fn_O {x:Str} {st:Stmt} {N ps:List Str} {k:Nat} {f:FO} (F:Fd K mg x st ps) (Sc:ar N ps (ah st)) (len:∀ d ds R,f d ds R→ds.length + 1=ps.length)
    (hbody:∀ (fa:Addr) (cdv:Value) (A:Around) (outer:List Env) (s:Shared) (H:Hp) (E:XK) (a:Addr) (d0:D) (ds:List D) (R:D→D→Prop),Room k (A.deeper (envOfC x (ah st) s.heap.objs.size fa cdv))→f d0 ds R →
      ∃ t,DSs (cxOf CX0 P w K mg base N x (ah st) fa cdv A outer s H E).nox (aM st) t ∧
        t { nx:=fun δ=>∃ d1,δ[0]?=some (.own a d1)∧R .non d1,rt:=fun d δ=>∃ d1,δ[0]?=some (.own a d1)∧R d d1 } (Sl.own a d0 :: (ds.map Sl.dat++List.replicate (N.length - (1 + ds.length)) Sl.no))) :
    Cal P w K mg base (k + 1) x ps (spO K f):=by
  obtain ⟨fa,fd,Fu,b,mm⟩:=F.ex
  refine⟨fa,fd,Fu.ok Sc (fun vs H Q E h=>?_) (fun cdv A outer s H vs Q E hr h=>?_),b,Fu.kp,mm⟩
  · obtain ⟨M,a,d0,vs',ds,R,rfl,m,na,ow,rs,hf,hk⟩:=h
    rw [uM,← Reps.length _ _ rs]
    exact len _ _ _ hf
  · obtain ⟨M,a,d0,vs',ds,R,rfl,m,na,ow,rs,hf,hk⟩:=h
    obtain ⟨t,ht,hq⟩:=hbody fa cdv A outer s H E a d0 ds R hr hf
    have ss:=mL (ds1:=[]) (vs1:=[]) N m na ow Reps.nil rs
    rw [show ([]:List D).length + 1 + ds.length=1 + ds.length by simp] at ss
    refine⟨_,ht,_,_,[],_,ss,hq,fun δ' ⟨d1,e,r⟩ σ' H' ⟨A',x⟩=>?_,⟨fun d δ' ⟨d1,e,r⟩ v σ' H' ⟨A',x⟩=>?_,fun _ h=>h.elim,fun _ _ _ z=>z.elim⟩,fun _ h=>h.elim,fun _ h=>h.elim,fun z=>z.elim⟩
    · obtain ⟨_,aa,oo⟩:=x.own 0 a d1 e
      exact hk _ _ r .non H' (fun b o n e=>x.old b o e n) (ib aa oo) (by unfold Rep;rfl)
    · obtain ⟨_,aa,oo⟩:=x.own 0 a d1 e
      exact hk _ _ r v H' (fun b o n e=>x.old b o e n) (ib aa oo) (Rep.more (fun b z=>.inl (z.elim .inl fun e=>.inr (by rw [e];exact aa))) _ _ (x.pnd (d,v) (by simp)))
end
def tD (i:Nat) (f:List D→(D→Prop)→Prop) (t:TDA):TDS:=fun R δ=>t δ fun ds δ1=>f ds fun d=>∀ a,R.nx (δ1.set i (.own a d))
def rL (i:Nat) (t:TDA):TDS:=fun R δ=>t δ fun ds δ1=>ds.length≤9000∧∀ a,R.nx (δ1.set i (.own a (.lst ds)))
def qI (i:Nat):TDS:=fun R δ=>∃ a d,δ[i]?=some (.own a d)∧R.ro d
def sC (t:TDA):TDS:=fun R δ=>t δ fun ds _=>ds.length≤9000∧R.ro (.lst ds)
def nk (i:Nat) (f:FO) (t:TDA):TDE:=fun δ R=>∃ a d,δ[i]?=some (.own a d)∧t δ fun ds δ1=>∃ d0,δ1[i]?=some (.own a d0)∧f d0 ds fun r d1=>R (.d r) (δ1.set i (.own a d1))
def rE (i:Nat):TDE:=fun δ R=>∃ a ds,δ[i]?=some (.own a (.lst ds))∧R (.d (.int ds.length)) δ
def lT (i:Nat):TDE:=fun δ R=>∃ a ds,δ[i]?=some (.own a (.lst ds))∧R (.d (.tup ds)) δ
section
variable {X:Cx} {pos:Pos} {a b e:Expr} {es:List Expr} {ta tb:TDE} {t:TDA} {f:List D→(D→Prop)→Prop}
theorem S.ret {K:PySem.W.Frag} {G:Gf} {δ:En} {P:List (D×V)} {σ:L2.St} {H:Hp} {i:Nat} {a:Addr} {d:D} (s:S K G δ P σ H) (e:δ[i]?=some (.own a d)):nn K G H a d:=by
 obtain ⟨A,x⟩:=s
 obtain ⟨_,aa,oo⟩:=x.own i a d e
 exact⟨x.old,x.new a aa,fun z=>(x.new a aa).elim (fun q=>x.m0 a z q) fun q=>(x.pm a q).2 z,ib aa oo⟩
theorem pW (i:Nat) {x:Str} {p:Pos} (hN:X.N[i]?=some x:=by rfl) (hv:Vis X.env.scope x:=by walk_at "v3") (hd:(x == ("__debug__":Str))=false:=by decide)
  (hcd:(x == ("__classdict__":Str))=false:=by decide):DS X (.Return (some (.Name x p)) pos) (qI i) :=
 PS.imp (i8 (a8 hN hv hd hcd)) fun E σ H ⟨G,δ,P,R,s,⟨a,d,e,r⟩,_,k,_⟩=>⟨.ref a,s.own e,k.2.1 d r a H (s.ret e)⟩
theorem lI {p:Pos} (h:DA X es t):DS X (.Return (some (.List es p)) pos) (sC t) :=
 PS.imp (i8 (lS h)) fun E σ H ⟨G,δ,P,R,s,h,_,k,_⟩=>⟨G,δ,P,_,s,h,fun ds δ1 ⟨hz,r⟩ vs H1 hl ⟨A,x⟩=>⟨by rw [← hl];exact dh hz,fun p hp=>k.2.1 _ r p _ (by
  have rs:=x.reps ds vs hl (fun q hq=>uI _ hq)
  have sm:=al hp (.lst vs)
  have nm:¬ (G.M0 p∨A p):=fun z=>x.mem p z hp
  refine⟨fun b o e n=>sm b o (x.old b o e n),.inl ?_,fun z=>nm (.inl z),vs,ak,Reps.kp (Kp.of_same sm) _ _ (Reps.more (fun b z=>?_) _ _ rs)⟩
  ·cases q:G.H0 p with
   | none=>rfl
   | some o=>exact absurd hp (x.stay p (by rw [q];exact fun z=>nomatch z))
  ·rcases z with z | z
   ·exact .inl (.inl z)
   ·exact .inr (by rw [z];exact hp))⟩⟩
theorem iM (i:Nat) {x:Str} {p pos':Pos} (hN:X.N.Nodup) (h:DA X es t) (hi:X.N[i]?=some x:=by rfl) (hx:Loc X.env.scope x:=by walk_at "v2") (hs:swapsWith (.List es p) (some (.Name x pos')) pos.line X.env=pure false:=by rfl)
  (hf:X.fn x=true∨X.env.scope.names.lookup x=some .local :=by walk_at "v1"):DS X (.Assign [.Name x pos'] (.List es p) pos) (rL i t) :=
 PS.imp (et hN hi hx (lS h) hs hf) fun E σ H ⟨G,δ,P,R,s,h,k,_⟩=>⟨G,δ,P,_,s,h,fun ds δ1 ⟨hz,r⟩ vs H1 hl ⟨A,x⟩=>⟨by rw [← hl];exact dh hz,fun p hp=>by
  have rs:=x.reps ds vs hl (fun q hq=>uI _ hq)
  have sm:=al hp (.lst vs)
  refine k _ (r p) _ _ ⟨_,x.claim (P':=P) hp sm ⟨vs,ak,Reps.kp (Kp.of_same sm) _ _ (Reps.more (fun b z=>?_) _ _ rs)⟩ fun q hq=>uH _ hq⟩
  rcases z with z | z
  ·exact .inl z
  ·exact .inr (by rw [z];exact hp)⟩⟩
theorem oP (i:Nat) {x y:Str} {k:Nat} {ps:List Str} {p pos' pos2:Pos} (hN:X.N.Nodup) (C:Cal X.prog X.w X.K X.mg X.base k x ps (spN X.K f)) (hr:Room k X.A) (hg:Gl X x) (ha:DA X (a :: es) t) (hi:X.N[i]?=some y:=by rfl) (hx:Loc X.env.scope y:=by walk_at "v2")
  (hdb:(x == ("__debug__":Str))=false:=by decide) (he:starEach (a :: es) X.env=(false,eval a X.env) :: starEach es X.env:=by rfl) (hpl:(backTo pos2 (starEach es X.env)).any (·.1)=false:=by rfl)
  (hs:swapsWith (.Call (.Name x p) (a :: es) [] pos2) (some (.Name y pos')) pos.line X.env=pure false:=by rfl) (hf:X.fn y=true∨X.env.scope.names.lookup y=some .local :=by walk_at "v1") :
  DS X (.Assign [.Name y pos'] (.Call (.Name x p) (a :: es) [] pos2) pos) (tD i f t):=by
 obtain ⟨g,fd,F,b,kp,m⟩:=C.ex
 refine PS.imp (et hN hi hx (eI F hr hg m kp b .nil pM ha hdb he hpl) hs hf) fun E σ H ⟨G,δ,P,R,s,h,k,_⟩=>⟨G,δ,P,_,s,h,fun ds δ1 h1 vs H1 hl ⟨A,x⟩=>?_⟩
 show spN X.K f (vs++[]) H1 _ _
 rw [List.append_nil]
 exact⟨_,ds,_,x.mem,x.reps ds vs hl (fun q hq=>uI _ hq),h1,fun d r a H' sm fr ow=>k _ (r a) _ _ ⟨_,x.claim (P':=P) fr sm ow fun q hq=>uH _ hq⟩⟩
theorem ol {K:PySem.W.Frag} {G:Gf} {A:Addr→Prop} {δ:En} {P P':List (D×V)} {σ:L2.St} {H:Hp} {i:Nat} {a:Addr} {d0:D} {ds:List D} {vs:List V} {f:FO} {R:D→D→Prop} {Q:VK} {E:XK} (x:Sx K G A δ P σ H) (hi:δ[i]?=some (.own a d0)) (hl:ds.length=vs.length) (hp:∀ p∈ds.zip vs,p∈P)
  (hP:∀ p∈P',p∈P) (hf:f d0 ds R) (k:∀ r d1,R r d1→∀ v H',S K G (δ.set i (.own a d1)) ((r,v) :: P') σ H'→Q v H'):spO K f (.ref a :: vs) H Q E:=by
 obtain ⟨_,aa,oo⟩:=x.own i a d0 hi
 have e1:∀ b,(((G.M0 b∨A b)∧b≠a)∨b=a)→(G.M0 b∨A b):=fun b h=>h.elim (fun z=>z.1) fun z=>.inr (by rw [z];exact aa)
 have e2:∀ b,(G.M0 b∨A b)→(((G.M0 b∨A b)∧b≠a)∨b=a):=fun b h=>by
  by_cases z:b=a
  ·exact .inr z
  ·exact .inl ⟨h,z⟩
 refine⟨fun b=>(G.M0 b∨A b)∧b≠a,a,d0,vs,ds,R,rfl,fun b z=>x.mem b z.1,fun z=>z.2 rfl,bg.more (fun b z=>.inl (e1 b z)) oo,Reps.more (fun b z=>.inl (e1 b z)) _ _ (x.reps ds vs hl hp),hf,fun r d1 hr v H' hk ow rp=>k r d1 hr v H' ⟨A,?_⟩⟩
 exact ((x.change hi hk (bg.more (fun b z=>.inl (e2 b z)) ow)).sub hP).push (Rep.more (fun b z=>.inl (e2 b z)) _ _ rp)
theorem cG (i:Nat) {f:FO} {x y:Str} {k:Nat} {ps:List Str} {p p2 pos:Pos} (C:Cal X.prog X.w X.K X.mg X.base k x ps (spO X.K f)) (hr:Room k X.A) (hg:Gl X x) (ha:DA X es t) (hN:X.N[i]?=some y:=by rfl)
  (hv:Vis X.env.scope y:=by walk_at "v3") (hd:(y == ("__debug__":Str))=false:=by decide) (hcd:(y == ("__classdict__":Str))=false:=by decide) (hdb:(x == ("__debug__":Str))=false:=by decide)
  (he:starEach (.Name y p2 :: es) X.env=(false,eval (.Name y p2) X.env) :: starEach es X.env:=by rfl) (hpl:(backTo pos (starEach es X.env)).any (·.1)=false:=by rfl) :
  DE X (.Call (.Name x p) (.Name y p2 :: es) [] pos) (nk i f t):=by
 obtain ⟨g,fd,F,b,kp,m⟩:=C.ex
 refine PE.imp (eI F hr hg m kp b .nil pM (aI (a8 hN hv hd hcd) ha he) hdb he hpl) fun σ H Q ⟨G,δ,P,R,s,⟨a,d,e,h⟩,k,_⟩=>⟨.ref a,s.own e,G,δ,P,_,s,h,fun ds δ1 ⟨d0,hi,hf⟩ vs H1 hl ⟨A,x⟩=>?_⟩
 show spO X.K f ((V.ref a :: vs)++[]) H1 Q _
 rw [List.append_nil]
 exact ol x hi hl (fun q hq=>uI _ hq) (P':=P) (fun q hq=>uH _ hq) hf fun r d1 hr v H' s'=>k r _ hr v H' s'
theorem cR {K:PySem.W.Frag} {G:Gf} {A:Addr→Prop} {δ:En} {P:List (D×V)} {σ:L2.St} {H:Hp} {i:Nat} {a:Addr} {ds:List D} (x:Sx K G A δ P σ H) (hi:δ[i]?=some (.own a (.lst ds))):σ[i]?=some (some (.ref a))∧A a∧∃ vs,H a=some (.lst vs)∧Reps K (fun b=>G.M0 b∨A b) H ds vs:=by
 obtain ⟨h1,h2,vs,h3,h4⟩:=x.own i a _ hi
 exact⟨h1,h2,vs,h3,h4⟩
theorem eG (i:Nat) {y:Str} {p pos:Pos} (hb:DE X b tb) (hs:iQ b) (hN:X.N[i]?=some y:=by rfl) (hv:Vis X.env.scope y:=by walk_at "v3")
  (hd:(y == ("__debug__":Str))=false:=by decide) (hcd:(y == ("__classdict__":Str))=false:=by decide):DE X (.Subscript (.Name y p) b pos) (fun δ R=>∃ a ds,δ[i]?=some (.own a (.lst ds))∧tb δ (wd fun z δ1=>∃ ds k v,δ1[i]?=some (.own a (.lst ds))∧z=.int k∧atI ds k=some v∧R (.d v) δ1)) :=
 PE.imp (tf kj (a8 hN hv hd hcd) hb hs) fun σ H Q ⟨G,δ,P,R,s,⟨a,ds0,e,h⟩,k,_⟩=>⟨.ref a,s.own e,up.mk s h fun z δ1 ⟨ds,j,w,hi,ez,ew,r⟩ v H1 s1=>by
  subst ez
  obtain ⟨A,x⟩:=id s1
  obtain ⟨_,aa,vs,hvs,rs⟩:=cR x hi
  obtain ⟨n,h1,h2⟩:=kX (Reps.length _ _ rs) ew
  obtain ⟨u,hu,ru⟩:=Reps.get _ _ rs n w h1
  exact⟨a,vs,j,u,rfl,aH (x.pnd (.int j,v) (by simp)),SqL.of hvs,h2 u hu,k w δ1 r u H1 ⟨A,(x.sub (P':=P) fun q hq=>uB _ hq).push ru⟩⟩⟩
theorem gW (i:Nat) {y:Str} {p p2 pos:Pos} (hg:Gl X "len") (hm:X.mg "len"=none) (hv':bootBuiltins "len"=some (.builtin "len")) (hN:X.N[i]?=some y:=by rfl) (hv:Vis X.env.scope y:=by walk_at "v3")
  (hd:(y == ("__debug__":Str))=false:=by decide) (hcd:(y == ("__classdict__":Str))=false:=by decide) (he:starEach [.Name y p2] X.env=(false,eval (.Name y p2) X.env) :: starEach [] X.env:=by rfl) (hpl:(backTo pos (starEach [] X.env)).any (·.1)=false:=by rfl) :
  DE X (.Call (.Name "len" p) [.Name y p2] [] pos) (rE i) :=
 PE.imp (cI dJ hg hm hv' (aI (a8 hN hv hd hcd) bS he) (by decide) (by decide) he hpl) fun σ H Q ⟨G,δ,P,R,s,⟨a,ds,e,h⟩,k,_⟩=>by
  obtain ⟨A,x⟩:=id s
  obtain ⟨h1,aa,vs,hvs,rs⟩:=cR x e
  exact⟨.ref a,h1,a,vs,rfl,.inl (SqL.of hvs),k _ δ h _ H (s.sc (by rw [Reps.length _ _ rs];rfl))⟩
theorem lb (i:Nat) {y:Str} {p p2 pos:Pos} (hg:Gl X "tuple") (hm:X.mg "tuple"=none) (hv':bootBuiltins "tuple"=some (.type "tuple")) (hN:X.N[i]?=some y:=by rfl) (hv:Vis X.env.scope y:=by walk_at "v3")
  (hd:(y == ("__debug__":Str))=false:=by decide) (hcd:(y == ("__classdict__":Str))=false:=by decide) (he:starEach [.Name y p2] X.env=(false,eval (.Name y p2) X.env) :: starEach [] X.env:=by rfl) (hpl:(backTo pos (starEach [] X.env)).any (·.1)=false:=by rfl) :
  DE X (.Call (.Name "tuple" p) [.Name y p2] [] pos) (lT i) :=
 PE.imp (gq de hg hm hv' (aI (a8 hN hv hd hcd) bS he) (by decide) (by decide) he hpl) fun σ H Q ⟨G,δ,P,R,s,⟨a,ds,e,h⟩,k,_⟩=>by
  obtain ⟨A,x⟩:=id s
  obtain ⟨h1,aa,vs,hvs,rs⟩:=cR x e
  refine⟨.ref a,h1,a,vs,rfl,.inl ⟨SqL.of hvs,fun l hl=>k _ δ h _ _ ⟨A,(x.same (al hl _)).push ?_⟩⟩⟩
  unfold Rep
  exact⟨l,vs,rfl,SqT.of ak,Reps.kp (Kp.of_same (al hl _)) _ _ rs⟩
theorem fF (i:Nat) {y:Str} {p pos':Pos} (he:DE X e ta) (hb:DE X b tb) (hN:X.N[i]?=some y:=by rfl) (hv:Vis X.env.scope y:=by walk_at "v3")
    (hd:(y == ("__debug__":Str))=false:=by decide) (hcd:(y == ("__classdict__":Str))=false:=by decide) (hs:swapsWithSole [.Subscript (.Name y p) b pos'] e pos.line X.env=pure false:=by rfl) (hw:swappedStores [.Subscript (.Name y p) b pos'] e X.env=pure none:=by rfl)
    (h1:(assignEach [.Subscript (.Name y p) b pos'] X.env).map (·.2)=[assign (.Subscript (.Name y p) b pos') X.env]:=by rfl)
    (ha:∀ v,assign (.Subscript (.Name y p) b pos') X.env v=(do
      let ov←holding [v] (eval (.Name y p) X.env)
      let iv←holding [v,ov] (eval b X.env)
      standAt pos'
      holding [v,ov,iv] (setItem ov iv v)
      release [v,ov,iv] []):=by intro _;rfl) :
    DS X (.Assign [.Subscript (.Name y p) b pos'] e pos) (fun R δ=>ta δ (wd fun x δ1=>∃ a ds,δ1[i]?=some (.own a (.lst ds))∧tb δ1 (wd fun z δ2=>∃ ds k j,δ2[i]?=some (.own a (.lst ds))∧z=.int k∧ixN ds.length k=some j∧R.nx (δ2.set i (.own a (.lst (ds.set j x))))))) :=
  PS.imp (nP he (rT (a8 hN hv hd hcd) hb mO ha) hs hw h1) fun E σ H ⟨G,δ,P,R,s,h,k,_⟩=>up.mk s h fun x δ1 ⟨a,ds0,hi0,h1⟩ v H1 s1=>⟨.ref a,s1.own hi0,up.mk s1 h1 fun z δ2 ⟨ds,n,j,hi,ez,hj,r⟩ u H2 ⟨A,q⟩=>by
    subst ez
    obtain ⟨_,aa,vs,hvs,rs⟩:=cR q hi
    refine⟨a,vs,n,j,rfl,aH (q.pnd (.int n,u) (by simp)),hvs,by rw [← Reps.length _ _ rs];exact hj,k _ r _ _ ⟨A,(q.change (d':=.lst (ds.set j x)) hi (fun b o n e=>by rw [ap n];exact e) ⟨vs.set j v,ak,?_⟩).sub (P':=P) fun q hq=>uB _ (uB _ hq)⟩⟩
    have kp:Kp (fun b=>G.M0 b∨A b) H2 (upd H2 a (.lst (vs.set j v))):=by
      have hk:∀ b o,b≠a→H2 b=some o→upd H2 a (.lst (vs.set j v)) b=some o:=fun b o n e=>by rw [ap n];exact e
      exact⟨fun b o e n=>hk b o (fun z=>n (.inr (by rw [z];exact aa))) e,fun b xs e=>hk b _ (fun z=>by rw [z,hvs] at e;cases e) e,fun b o u e=>hk b _ (fun z=>by rw [z,hvs] at e;cases e) e⟩
    exact Reps.kp kp _ _ (Reps.set (q.pnd (x,v) (by simp)) j _ _ rs)⟩
theorem dy (i:Nat) {y:Str} {p apos cpos:Pos} (he:DE X e ta) (hN:X.N[i]?=some y:=by rfl) (hv:Vis X.env.scope y:=by walk_at "v3")
  (hd:(y == ("__debug__":Str))=false:=by decide) (hcd:(y == ("__classdict__":Str))=false:=by decide)
  (hbase:attributeBase (.Name y p) "append" X.env (eval (.Name y p) X.env)=eval (.Name y p) X.env:=by rfl)
  (hfew:((backTo cpos (starEach [e] X.env)).all (fun x=>!x.1) && (backToKw cpos (keywordEach [] X.env)).all (fun x=>x.1.isSome) && decide ([e].length + ([]:List Keyword).length + (if ([]:List Keyword).isEmpty then 0 else 1) < 30))=true:=by rfl)
  (hline:(apos.endLine == cpos.line)=true:=by rfl) (hs:starEach [e] X.env=(false,eval e X.env) :: starEach [] X.env:=by rfl) (hplain:(backTo cpos (starEach [] X.env)).any (·.1)=false:=by rfl)
  (hsw:swapsWith (.Call (.Attribute (.Name y p) "append" apos) [e] [] cpos) none pos.line X.env=pure false:=by rfl) :
  DS X (.Expr (.Call (.Attribute (.Name y p) "append" apos) [e] [] cpos) pos) (fun R δ=>∃ a ds,δ[i]?=some (.own a (.lst ds))∧ta δ (wd fun x δ1=>∃ ds,δ1[i]?=some (.own a (.lst ds))∧ds.length < 9000∧R.nx (δ1.set i (.own a (.lst (ds++[x])))))) :=
 PS.imp (cY (tN PySem.F.plainAttrs_list PySem.F.slot_list_append PySem.F.type_list_append gA (a8 hN hv hd hcd) (aI he bS hs) hbase hfew hline hs hplain) hsw) fun E σ H ⟨G,δ,P,R,s,⟨a,ds0,hi0,h⟩,k,_⟩=>by
  obtain ⟨A0,x0⟩:=id s
  obtain ⟨h0,_,vs0,hvs0,_⟩:=cR x0 hi0
  refine⟨.ref a,h0,.inl ⟨rfl,vs0,SqL.of hvs0⟩,up.mk s h fun x δ1 ⟨ds,hi,hz,r⟩ v H1 ⟨A,q⟩=>?_⟩
  obtain ⟨_,aa,vs,hvs,rs⟩:=cR q hi
  refine⟨a,vs,v,rfl,rfl,hvs,by rw [← Reps.length _ _ rs];exact gU (Nat.le_of_lt hz),k _ r _ _ ⟨A,(q.change (d':=.lst (ds++[x])) hi (fun b o n e=>by rw [ap n];exact e) ⟨vs++[v],ak,?_⟩).sub (P':=P) fun q hq=>uB _ hq⟩⟩
  have kp:Kp (fun b=>G.M0 b∨A b) H1 (upd H1 a (.lst (vs++[v]))):=by
   have hk:∀ b o,b≠a→H1 b=some o→upd H1 a (.lst (vs++[v])) b=some o:=fun b o n e=>by rw [ap n];exact e
   exact⟨fun b o e n=>hk b o (fun z=>n (.inr (by rw [z];exact aa))) e,fun b xs e=>hk b _ (fun z=>by rw [z,hvs] at e;cases e) e,fun b o u e=>hk b _ (fun z=>by rw [z,hvs] at e;cases e) e⟩
  exact Reps.kp kp _ _ (Reps.append _ _ _ _ rs (Reps.one (q.pnd (x,v) (by simp))))
end
end DL
namespace DL
open PySem PySem.Spec PyProof.Rows L2
def dAt {α:Type}:List Str→List α→Str→Option α
 | k :: ks,d :: ds,x=>if k=x then some d else dAt ks ds x
 | _,_,_=>none
theorem l9 {ks:List Str} {vs:List V} (x:Str):valV (eU ks vs) (Sum.inr x)=dAt ks vs x:=by
 induction ks generalizing vs with
 | nil=>rfl
 | cons k ks ih =>
  cases vs with
  | nil=>rfl
  | cons v vs =>
   show valV ((Sum.inr k,v) :: eU ks vs) _=if k=x then some v else dAt ks vs x
   by_cases e:k=x
   ·subst e;rw [fK rfl,if_pos rfl]
   ·rw [fD (fun z=>e (Sum.inr.inj z)),if_neg e,ih]
section
variable {K:PySem.W.Frag} {M:Addr→Prop} {H:Hp}
theorem jc {α:Type} {ks:List Str} {ds:List α} {x:Str} (h:ks.length=ds.length):(dAt ks ds x).isSome=decide (x∈ks):=by
 induction ks generalizing ds with
 | nil=>rfl
 | cons k ks ih =>
  cases ds with
  | nil=>cases h
  | cons v vs =>
   show (if k=x then some v else dAt ks vs x).isSome=_
   by_cases e:k=x
   ·subst e;simp
   ·have e2:¬ x=k:=fun z=>e z.symm
    rw [if_neg e,ih (Nat.succ.inj h)]
    simp [e2]
end
def rH:List D→(D→Prop)→Prop
 | [.dct ks ds,.str x],R=>∃ d,dAt ks ds x=some d∧R d
 | [.fd ks ds,.str x],R=>∃ d,dAt ks ds x=some d∧R d
 | _,_=>False
theorem mf {ks:List Str} {ds:List D} {x:Str} {R:D→Prop}:rH [.fd ks ds,.str x] R↔∃ d,dAt ks ds x=some d∧R d:=Iff.rfl
theorem mh {ks:List Str} {ds:List D} {x:Str} {R:D→Prop}:rH [.dct ks ds,.str x] R↔∃ d,dAt ks ds x=some d∧R d:=Iff.rfl
def fIn (g:Bool→Bool):List D→(D→Prop)→Prop
 | [.str x,.dct ks _],R=>R (.bl (g (decide (x∈ks))))
 | [.str x,.lst ds],R=>∃ ss:List Str,ds=ss.map D.str∧R (.bl (g (decide (x∈ss))))
 | _,_=>False
theorem tw {g:Bool→Bool} {d0:List D} {R:D→Prop} (h:fIn g d0 R):(∃ (x:Str) (ks:List Str) (z1:List D),d0=[.str x,.dct ks z1]∧R (.bl (g (decide (x∈ks)))))∨(∃ (x:Str) (ds:List D),d0=[.str x,.lst ds]∧∃ ss:List Str,ds=ss.map D.str∧R (.bl (g (decide (x∈ss))))):=by
 rcases d0 with _ | ⟨a,_ | ⟨b,_ | ⟨c,l⟩⟩⟩
 ·exact False.elim h
 ·cases a<;>exact False.elim h
 ·cases a<;>first | exact False.elim h | (cases b<;>first | exact False.elim h | exact .inl ⟨_,_,_,rfl,h⟩ | exact .inr ⟨_,_,rfl,h⟩)
 ·cases a<;>first | exact False.elim h | (cases b<;>exact False.elim h)
theorem qF {g:Bool→Bool} {ks:List Str} {ds:List D} {x:Str} {R:D→Prop}:fIn g [.str x,.dct ks ds] R↔R (.bl (g (decide (x∈ks)))):=Iff.rfl
theorem qg {g:Bool→Bool} {ds:List D} {x:Str} {R:D→Prop}:fIn g [.str x,.lst ds] R↔∃ ss:List Str,ds=ss.map D.str∧R (.bl (g (decide (x∈ss)))):=Iff.rfl
theorem eE {K:PySem.W.Frag} {M:Addr→Prop} {H:Hp}:∀ {ss:List Str} {vs:List V},Reps K M H (ss.map D.str) vs→vs=ss.map V.str
 | [],vs,h=>by unfold Reps at h;exact h
 | s :: ss,vs,h=>by
  rw [List.map_cons] at h
  unfold Reps at h
  obtain ⟨v,r,rfl,q,t⟩:=h
  rw [ci q,eE t];rfl
theorem bM {K:PySem.W.Frag} {M:Addr→Prop} {H:Hp}:∀ (ss:List Str),Reps K M H (ss.map D.str) (ss.map V.str)
 | []=>Reps.nil
 | s :: ss=>Reps.cons (by unfold Rep;rfl) (bM ss)
theorem dv:∀ {ss:List Str} {us:List Value},Vals (ss.map V.str) us→StrsAre us ss
 | [],_,r=>by rw [List.map_nil] at r;cases r;exact .nil
 | s :: ss,_,r=>by
  rw [List.map_cons] at r
  cases r with
  | @cons _ u _ us h t =>
   obtain ⟨t',e⟩:=(show ∃ t,u=Value.str s t from h)
   subst e
   exact .cons _ _ (dv t)
theorem bL:∀ {ss:List Str} {us:List Value},StrsAre us ss→Vals (ss.map V.str) us
 | _,_,.nil=>.nil
 | _,_,.cons _ _ h=>.cons ⟨_,rfl⟩ (bL h)
theorem iZ (x:Str):∀ {us:List Value} {ss:List Str},StrsAre us ss→us.any (fun y=>match y with | .str z _=>z == x | _=>false)=decide (x∈ss)
 | _,_,.nil=>rfl
 | _,_,.cons y t (vs:=us) (ys:=ss) h=>by
  rw [List.any_cons,iZ x h]
  by_cases e:y=x
  ·subst e;simp
  ·have e2:¬ x=y:=fun z=>e z.symm
   simp [e,e2]
theorem mM {us:List Value} {ss:List Str} (h:StrsAre us ss):∀ y∈us,∃ z t,y=Value.str z t:=by
 induction h with
 | nil=>intro y hy;cases hy
 | cons z t h ih =>
  intro y hy
  rcases uG.mp hy with rfl | hy
  ·exact⟨z,t,rfl⟩
  ·exact ih y hy
section
variable {X:Cx}
theorem o_in (hu:X.A.units + 64 < cLine):OpR X (compareOp .In) fun x y=>aU X.K (fIn id) [x,y]:=by
 intro pins s σ H x y v u Q I rx ry h
 obtain ⟨M,ds,R,m,rs,h,k⟩:=h
 have fin:∀ b s',Inv X pins σ H s'→R (.bl b)→EP X pins σ Q (.bool b) s':=fun b s' I' r=>⟨.bl b,H,I',rfl,k _ r _ H (Same.refl H) (Rep.sc rfl)⟩
 replace h:=tw h
 rcases h with ⟨_,_,_,rfl,h⟩ | ⟨x0,_,rfl,h⟩
 ·obtain ⟨h1,h2⟩:=bV rs
  cases ci h1
  unfold Rep at h2
  obtain ⟨a,vs,rfl,_,e,l,r⟩:=h2
  cases ry
  refine d_in (by omega) I (DGet.k (k:=Sum.inr _) e) rx fun s' I'=>?_
  rw [l9,jc (by rw [l,Reps.length _ _ r])]
  exact fin _ _ I' h
 ·obtain ⟨ss,rfl,h⟩:=h
  obtain ⟨h1,h2⟩:=bV rs
  cases ci h1
  unfold Rep at h2
  obtain ⟨a,vs,rfl,_,e,r⟩:=h2
  cases ry
  cases eE r
  obtain ⟨t,rfl⟩:=rx
  obtain ⟨its,rv,pl,_⟩:=I.list (SqL.of e)
  have hs:=dv rv
  refine SeqAt.in_listAt (fun y=>match y with | .str z _=>z == x0 | _=>false) pl.isList (fun y hy=>?_) ?_
  ·obtain ⟨z,t',rfl⟩:=mM hs y (by simpa using hy)
   exact SeqAt.EqAt.str_str z t' x0 t
  ·rw [List.any_toArray,iZ x0 hs]
   exact fin _ _ I h
def fNeq:List D→(D→Prop)→Prop
 | [.int i,.int j],R=>R (.bl (!decide (i=j)))
 | [.str x,.str y],R=>R (.bl (!decide (x=y)))
 | [.bl a,.bl b],R=>R (.bl (!decide (a=b)))
 | [.tup xs,.tup ys],R=>(xs=ys∧D.nds xs=true∧D.dps xs≤60)∧R (.bl false)
 | [.lst xs,.lst ys],R=>(xs=ys∧D.nds xs=true∧D.dps xs≤60)∧R (.bl false)
 | _,_=>False
theorem pc {d0:List D} {R:D→Prop} (h:fNeq d0 R):(∃ (i:Int) (j:Int),d0=[.int i,.int j]∧R (.bl (!decide (i=j))))∨(∃ (x:Str) (y:Str),d0=[.str x,.str y]∧R (.bl (!decide (x=y))))∨(∃ (a:Bool) (b:Bool),d0=[.bl a,.bl b]∧R (.bl (!decide (a=b))))∨(∃ (xs:List D) (ys:List D),d0=[.tup xs,.tup ys]∧(xs=ys∧D.nds xs=true∧D.dps xs≤60)∧R (.bl false))∨(∃ (xs:List D) (ys:List D),d0=[.lst xs,.lst ys]∧(xs=ys∧D.nds xs=true∧D.dps xs≤60)∧R (.bl false)):=by
 rcases d0 with _ | ⟨a,_ | ⟨b,_ | ⟨c,l⟩⟩⟩
 ·exact False.elim h
 ·cases a<;>exact False.elim h
 ·cases a<;>first | exact False.elim h | (cases b<;>first | exact False.elim h | exact .inl ⟨_,_,rfl,h⟩ | exact .inr (.inl ⟨_,_,rfl,h⟩) | exact .inr (.inr (.inl ⟨_,_,rfl,h⟩)) | exact .inr (.inr (.inr (.inl ⟨_,_,rfl,h⟩))) | exact .inr (.inr (.inr (.inr ⟨_,_,rfl,h⟩))))
 ·cases a<;>first | exact False.elim h | (cases b<;>exact False.elim h)
theorem mD {i j:Int} {R:D→Prop}:fNeq [.int i,.int j] R↔R (.bl (!decide (i=j))):=Iff.rfl
theorem mX {i j:Str} {R:D→Prop}:fNeq [.str i,.str j] R↔R (.bl (!decide (i=j))):=Iff.rfl
theorem qH {i j:Bool} {R:D→Prop}:fNeq [.bl i,.bl j] R↔R (.bl (!decide (i=j))):=Iff.rfl
theorem mP {xs ys:List D} {R:D→Prop}:fNeq [.tup xs,.tup ys] R↔(xs=ys∧D.nds xs=true∧D.dps xs≤60)∧R (.bl false):=Iff.rfl
theorem ma {xs ys:List D} {R:D→Prop}:fNeq [.lst xs,.lst ys] R↔(xs=ys∧D.nds xs=true∧D.dps xs≤60)∧R (.bl false):=Iff.rfl
theorem ia {α β:Type} {F:α→β→Prop}:∀ {l₁:List α} {l₂:List β} {j:Nat} {b:β},Paired F l₁ l₂→l₂[j]?=some b→∃ a,l₁[j]?=some a∧F a b
 | _,_,_,_,.nil,e=>by simp at e
 | _,_,0,_,.cons h t,e=>by simp at e;subst e;exact⟨_,rfl,h⟩
 | _,_,j + 1,_,.cons h t,e=>by
  obtain ⟨a,q,f⟩:=ia (j:=j) t (by simpa using e)
  exact⟨a,by simpa using q,f⟩
theorem lw {ks:List Str} {vs:List V} {j:Nat} {k:Key} {v:V} (e:(eU ks vs)[j]?=some (k,v)):∃ x,k=Sum.inr x∧ks[j]?=some x∧vs[j]?=some v:=by
 unfold eU at e
 rw [List.getElem?_zip_eq_some] at e
 obtain ⟨e1,e2⟩:=e
 rw [uN] at e1
 cases h:ks[j]? with
 | none=>rw [h] at e1;cases e1
 | some x=>rw [h] at e1;exact⟨x,(Option.some.inj e1).symm,rfl,e2⟩
theorem qB (hu:X.A.units + 64 < cLine):OpR X (compareOp .NotEq) fun x y=>aU X.K fNeq [x,y]:=by
 intro pins s σ H x y v u Q I rx ry h
 obtain ⟨M,ds,R,m,rs,h,k⟩:=h
 have fin:∀ b,R (.bl b)→EP X pins σ Q (.bool b) s:=fun b r=>⟨.bl b,H,I,rfl,k _ r _ H (Same.refl H) (Rep.sc rfl)⟩
 replace h:=pc h
 rcases h with ⟨_,_,rfl,h⟩ | ⟨_,_,rfl,h⟩ | ⟨_,_,rfl,h⟩ | ⟨_,_,rfl,h⟩ | ⟨_,_,rfl,h⟩
 ·exact o_ne hu pins s σ H x y v u Q I rx ry ⟨M,_,R,m,rs,h,k⟩
 ·exact o_ne hu pins s σ H x y v u Q I rx ry ⟨M,_,R,m,rs,h,k⟩
 ·exact o_ne hu pins s σ H x y v u Q I rx ry ⟨M,_,R,m,rs,h,k⟩
 ·obtain ⟨⟨e,hn,hd⟩,h⟩:=h
  subst e
  obtain ⟨h1,h2⟩:=bV rs
  unfold Rep at h1 h2
  obtain ⟨a,vs,rfl,sq,rs1⟩:=h1
  obtain ⟨b,ws,rfl,sq',rs2⟩:=h2
  cases rx
  cases ry
  obtain ⟨its,r1,t1,_⟩:=I.tuple sq
  obtain ⟨its',r2,t2,_⟩:=I.tuple sq'
  have hs:its.length=its'.length:=by rw [← r1.length,← r2.length,← Reps.length _ _ rs1,← Reps.length _ _ rs2]
  refine SeqAt.RcNeAt.tuples (e:=fun _=>true) t1 t2 (by omega) (eqAt_Ds I _ X.A.in1 vs ws its its' hn (by rw [bI];omega) rs1 rs2 r1 r2) _ _ _ _ ?_
  have z:((List.range (min its.toArray.size its'.toArray.size)).all (fun _=>true) && its.toArray.size == its'.toArray.size)=true:=by simp [hs]
  rw [z]
  exact fin _ h
 ·obtain ⟨⟨e,hn,hd⟩,h⟩:=h
  subst e
  obtain ⟨h1,h2⟩:=bV rs
  unfold Rep at h1 h2
  obtain ⟨a,vs,rfl,_,sq,rs1⟩:=h1
  obtain ⟨b,ws,rfl,_,sq',rs2⟩:=h2
  cases rx
  cases ry
  obtain ⟨its,r1,t1,_⟩:=I.list (SqL.of sq)
  obtain ⟨its',r2,t2,_⟩:=I.list (SqL.of sq')
  have hs:its.length=its'.length:=by rw [← r1.length,← r2.length,← Reps.length _ _ rs1,← Reps.length _ _ rs2]
  refine SeqAt.RcNeAt.lists (e:=fun _=>true) t1.isList t2.isList (by simp [hs]) (by omega) (eqAt_Ds I _ X.A.in1 vs ws its its' hn (by rw [bI];omega) rs1 rs2 r1 r2) _ _ _ _ ?_
  rw [dX]
  exact fin _ h
end
end DL
namespace DL
open PySem PySem.Spec PyProof.Rows L2
section
variable {prog:Program} {w:World} {A:Around} {E:Value→Shared→Prop} {s:Shared}
theorem fv {a:Addr} {vs:List Value} {ss:List Str} {n:Nat} {Q:Value→Shared→Prop} (ho:s.heap.get? a=some (seqObj "list" vs.toArray n)) (hS:StrsAre vs ss) (h64:vs.length < 64)
  (h:∀ (out:Array Value) (ss':List Str),StrsAre out.toList ss'→ss'.Perm ss→sortedS ss'=true→Q .none { s with heap:=sortedHeap s.heap a vs out }) :
  wpAny (model prog w) A (call (.builtin "list.sort") [.ref a]) Q E s:=by
 refine wpAny_call_entry slot_list_sort ⟨_,ho,rfl⟩ entry_list_sort (list_sort_treeK strKind_oneLt ho hS.keysOf (fun v₁ v₂ rest e=>keyKind_strs (by rw [← e];exact hS)) h64 fun st' hp hs=>?_) (args_list_sort _)
 obtain ⟨ss',h1,h2,h3⟩:=sorted_out_str hS hp hs
 exact⟨_,rfl,h _ ss' h1 h2 h3⟩
end
abbrev Srt (ss:List Str):Prop:=sortedS ss=true
def el:List D→(D→Prop)→Prop
 | [.lst ds],R=>∃ ss:List Str,ds=ss.map D.str∧ss.length < 64∧∀ ss',ss'.Perm ss→Srt ss'→R (.lst (ss'.map D.str))
 | [.dct ks _],R=>ks.length < 64∧∀ ss',ss'.Perm ks→Srt ss'→R (.lst (ss'.map D.str))
 | [.fd ks _],R=>ks.length < 64∧∀ ss',ss'.Perm ks→Srt ss'→R (.lst (ss'.map D.str))
 | _,_=>False
theorem jH {d0:List D} {R:D→Prop} (h:el d0 R):(∃ (ds:List D),d0=[.lst ds]∧∃ ss:List Str,ds=ss.map D.str∧ss.length < 64∧∀ ss',ss'.Perm ss→Srt ss'→R (.lst (ss'.map D.str)))∨(∃ (ks:List Str) (z1:List D),d0=[.dct ks z1]∧ks.length < 64∧∀ ss',ss'.Perm ks→Srt ss'→R (.lst (ss'.map D.str)))∨(∃ (ks:List Str) (z1:List D),d0=[.fd ks z1]∧ks.length < 64∧∀ ss',ss'.Perm ks→Srt ss'→R (.lst (ss'.map D.str))):=by
 rcases d0 with _ | ⟨a,_ | ⟨b,l⟩⟩
 ·exact False.elim h
 ·cases a<;>first | exact False.elim h | exact .inl ⟨_,rfl,h⟩ | exact .inr (.inl ⟨_,_,rfl,h⟩) | exact .inr (.inr ⟨_,_,rfl,h⟩)
 ·cases a<;>exact False.elim h
theorem iH {ds:List D} {R:D→Prop}:el [.lst ds] R↔∃ ss:List Str,ds=ss.map D.str∧ss.length < 64∧∀ ss',ss'.Perm ss→Srt ss'→R (.lst (ss'.map D.str)):=Iff.rfl
theorem jn {ks:List Str} {ds:List D} {R:D→Prop}:el [.fd ks ds] R↔ks.length < 64∧∀ ss',ss'.Perm ks→Srt ss'→R (.lst (ss'.map D.str)):=Iff.rfl
theorem iE {ks:List Str} {ds:List D} {R:D→Prop}:el [.dct ks ds] R↔ks.length < 64∧∀ ss',ss'.Perm ks→Srt ss'→R (.lst (ss'.map D.str)):=Iff.rfl
theorem d8 {P:Program} {w:World}:∀ {ks:List Str} {us:List Value},ks.length=us.length→(∀ (j:Nat) v k,us[j]?=some v→ks[j]?=some k→(bp P w).is (Sum.inr k) v=true)→StrsAre us ks
 | [],[],_,_=>.nil
 | [],_ :: _,l,_=>by cases l
 | _ :: _,[],l,_=>by cases l
 | k :: ks,u :: us,l,h=>by
  have h0:=h 0 u k rfl rfl
  obtain ⟨t,rfl⟩:∃ t,u=Value.str k t:=by
   have:iJ (Sum.inr k) u=true:=h0
   rcases aN this with ⟨i,t,e,_⟩ | ⟨x,t,e,e2⟩
   ·cases e
   ·cases e;exact⟨t,e2⟩
  exact .cons _ _ (d8 (Nat.succ.inj l) fun j v k' e1 e2=>h (j + 1) v k' (by simpa using e1) (by simpa using e2))
section
variable {X:Cx}
theorem mG (hc:X.calm=true):bx X (.builtin "sorted") (aU X.K el):=by
 intro pins s σ H xs us Q I rv h
 obtain ⟨M,ds,R,m,rs,h,k⟩:=h
 replace h:=jH h
 rcases h with ⟨_,rfl,h⟩ | ⟨_,_,rfl,h⟩ | ⟨_,_,rfl,h⟩
 ·obtain ⟨ss,rfl,h64,h⟩:=h
  obtain ⟨x,rfl,q⟩:=aW rs
  unfold Rep at q
  obtain ⟨a,vs,rfl,_,e,r⟩:=q
  obtain ⟨u,rfl,ru⟩:=fP rv
  cases ru
  cases eE r
  obtain ⟨its,rv2,pl,_⟩:=I.list (SqL.of e)
  have hs:=dv rv2
  have hl:its.length=ss.length:=by rw [← rv2.length,uA]
  refine sorted_strs pl.isList hs (by omega) fun out ss' h1 h2 h3=>?_
  obtain ⟨ep,he⟩:=sortedAll_at s.heap its out
  have hz:(ss'.map V.str).length≤sizeLine:=by rw [uA,h2.length_eq];exact dh (by omega)
  have I2:L2.Inv X pins σ (upd H (s.heap.objs.size + 1) (.lst (ss'.map V.str))) { s with heap:=sortedAll s.heap its out } :=
   I.laid (t':=s.toks) (fun b o=>sortedAll_old) (Nat.le_succ _) (show bq X.prog X.w _ _ _ (.lst (ss'.map V.str)) from ⟨hz,out.toList,ep,bL h1,he⟩)
  have fr:H (s.heap.objs.size + 1)=none:=I.hok.fresh (Nat.le_succ _)
  refine⟨.ref _,_,I2,rfl,k _ (h ss' h2 h3) _ _ (al fr _) ?_⟩
  unfold Rep
  exact⟨_,_,rfl,fun z=>m _ z fr,ak,bM ss'⟩
 ·obtain ⟨h64,h⟩:=h
  rename_i ks ds
  obtain ⟨x,rfl,q⟩:=aW rs
  unfold Rep at q
  obtain ⟨a,vs,rfl,_,e,l,r⟩:=q
  obtain ⟨u,rfl,ru⟩:=fP rv
  cases ru
  obtain ⟨hz,lo,va,ra,da⟩:=ub I.hok e
  obtain ⟨ep,hat⟩:=da.dictAt
  have lv:=Reps.length _ _ r
  have hlen:va.length=ks.length:=by
   rw [← ra.length]
   unfold eU
   rw [List.length_zip,uA];omega
  refine Calls.call_function_entry kind_sorted plain_sorted entry_sorted (args_sorted1 _) ?_
  unfold Builtin.«sorted»
  refine wpAny_bind (m:=checkCount "sorted" 1 1 _) (wpAny_pure ?_)
  refine wpAny_bind (PySem.W.kdu_collect (A:=X.A.in1) (PySem.W.kdl_dict (knd:=bp X.prog X.w) (kvs:=va) (ep:=ep) lo) (I.ok.hd hc) hat (by rw [hlen];exact dh (by omega)) fun h' tk acc hk hacc=>?_)
  have hl:acc.toList.length=ks.length:=by rw [Array.length_toList,← hlen];exact hacc.1
  have hS:StrsAre acc.toList ks:=d8 hl.symm fun j v k' e1 e2=>by
   obtain ⟨k2,x2,h1,h2⟩:=hacc.2 j v (by rw [← Array.getElem?_toList];exact e1)
   obtain ⟨⟨k3,v3⟩,q1,z1,_⟩:=ia ra h1
   obtain ⟨x,rfl,kx,_⟩:=lw q1
   simp only at z1
   rw [kx] at e2
   cases e2
   rw [z1]
   exact h2
  refine wpAny_bind (wpAny_newList ?_ (by rw [hl];exact dh (by omega)))
  have hoL:(h'.push { cls:=.type "list",data:=.seq acc.toList.toArray }).get? h'.objs.size=some (seqObj "list" acc.toList.toArray 0):=uW _ rfl
  refine wpAny_bind (wpAny_holding (fv hoL hS (by omega) fun out ss' h1 h2 h3=>?_))
  refine wpAny_pure ⟨_,rfl,?_⟩
  obtain ⟨ep2,he⟩:=sortedHeap_at (out:=out) hoL
  have I1:L2.Inv X pins σ H { s with heap:=h',toks:=tk }:=I.kept (t':=tk) hk
  have kp:∀ b o,h'.get? b=some o→(sortedHeap (h'.push { cls:=.type "list",data:=.seq acc.toList.toArray }) h'.objs.size acc.toList out).get? b=some o:=fun b o e=>by
   have hb:=Heap.lt_size e
   rw [sortedHeap_old (Nat.ne_of_lt hb) (by rw [Heap.size_push];exact Nat.lt_succ_of_lt hb)]
   exact uE _ e
  have hz2:(ss'.map V.str).length≤sizeLine:=by rw [uA,h2.length_eq];exact dh (by omega)
  have I2:L2.Inv X pins σ (upd H h'.objs.size (.lst (ss'.map V.str))) { s with heap:=sortedHeap (h'.push { cls:=.type "list",data:=.seq acc.toList.toArray }) h'.objs.size acc.toList out,toks:=tk } :=
   I1.laid (t':=tk) kp (Nat.le_refl _) (show bq X.prog X.w _ _ _ (.lst (ss'.map V.str)) from ⟨hz2,out.toList,ep2,bL h1,he⟩)
  have fr:H h'.objs.size=none:=I1.hok.fresh (Nat.le_refl _)
  refine⟨.ref _,_,I2,rfl,k _ (h ss' h2 h3) _ _ (al fr _) ?_⟩
  unfold Rep
  exact⟨_,_,rfl,fun z=>m _ z fr,ak,bM ss'⟩
 ·obtain ⟨h64,h⟩:=h
  rename_i ks ds
  obtain ⟨x,rfl,q⟩:=aW rs
  unfold Rep at q
  obtain ⟨a,vs,o9,rfl,e,l,r⟩:=q
  obtain ⟨u,rfl,ru⟩:=fP rv
  cases ru
  obtain ⟨hz,lo,va,ra,da⟩:=kf I.hok (.inr ⟨o9,e⟩)
  obtain ⟨ep,hat⟩:=da.dictAt
  have lv:=Reps.length _ _ r
  have hlen:va.length=ks.length:=by
   rw [← ra.length]
   unfold eU
   rw [List.length_zip,uA];omega
  refine Calls.call_function_entry kind_sorted plain_sorted entry_sorted (args_sorted1 _) ?_
  unfold Builtin.«sorted»
  refine wpAny_bind (m:=checkCount "sorted" 1 1 _) (wpAny_pure ?_)
  refine wpAny_bind (PySem.W.kdu_collect (A:=X.A.in1) (PySem.W.kdl_dict (knd:=bp X.prog X.w) (kvs:=va) (ep:=ep) lo) (I.ok.hd hc) hat (by rw [hlen];exact dh (by omega)) fun h' tk acc hk hacc=>?_)
  have hl:acc.toList.length=ks.length:=by rw [Array.length_toList,← hlen];exact hacc.1
  have hS:StrsAre acc.toList ks:=d8 hl.symm fun j v k' e1 e2=>by
   obtain ⟨k2,x2,h1,h2⟩:=hacc.2 j v (by rw [← Array.getElem?_toList];exact e1)
   obtain ⟨⟨k3,v3⟩,q1,z1,_⟩:=ia ra h1
   obtain ⟨x,rfl,kx,_⟩:=lw q1
   simp only at z1
   rw [kx] at e2
   cases e2
   rw [z1]
   exact h2
  refine wpAny_bind (wpAny_newList ?_ (by rw [hl];exact dh (by omega)))
  have hoL:(h'.push { cls:=.type "list",data:=.seq acc.toList.toArray }).get? h'.objs.size=some (seqObj "list" acc.toList.toArray 0):=uW _ rfl
  refine wpAny_bind (wpAny_holding (fv hoL hS (by omega) fun out ss' h1 h2 h3=>?_))
  refine wpAny_pure ⟨_,rfl,?_⟩
  obtain ⟨ep2,he⟩:=sortedHeap_at (out:=out) hoL
  have I1:L2.Inv X pins σ H { s with heap:=h',toks:=tk }:=I.kept (t':=tk) hk
  have kp:∀ b o,h'.get? b=some o→(sortedHeap (h'.push { cls:=.type "list",data:=.seq acc.toList.toArray }) h'.objs.size acc.toList out).get? b=some o:=fun b o e=>by
   have hb:=Heap.lt_size e
   rw [sortedHeap_old (Nat.ne_of_lt hb) (by rw [Heap.size_push];exact Nat.lt_succ_of_lt hb)]
   exact uE _ e
  have hz2:(ss'.map V.str).length≤sizeLine:=by rw [uA,h2.length_eq];exact dh (by omega)
  have I2:L2.Inv X pins σ (upd H h'.objs.size (.lst (ss'.map V.str))) { s with heap:=sortedHeap (h'.push { cls:=.type "list",data:=.seq acc.toList.toArray }) h'.objs.size acc.toList out,toks:=tk } :=
   I1.laid (t':=tk) kp (Nat.le_refl _) (show bq X.prog X.w _ _ _ (.lst (ss'.map V.str)) from ⟨hz2,out.toList,ep2,bL h1,he⟩)
  have fr:H h'.objs.size=none:=I1.hok.fresh (Nat.le_refl _)
  refine⟨.ref _,_,I2,rfl,k _ (h ss' h2 h3) _ _ (al fr _) ?_⟩
  unfold Rep
  exact⟨_,_,rfl,fun z=>m _ z fr,ak,bM ss'⟩
def ja:List D→(D→Prop)→Prop
 | [.lst xs],R=>R (.tup xs)
 | [.fz xs],R=>R (.tup xs)
 | [.tup xs],R=>R (.tup xs)
 | _,_=>False
theorem kB {d0:List D} {R:D→Prop} (h:ja d0 R):(∃ (xs:List D),d0=[.lst xs]∧R (.tup xs))∨(∃ (xs:List D),d0=[.fz xs]∧R (.tup xs))∨(∃ (xs:List D),d0=[.tup xs]∧R (.tup xs)):=by
 rcases d0 with _ | ⟨a,_ | ⟨b,l⟩⟩
 ·exact False.elim h
 ·cases a<;>first | exact False.elim h | exact .inl ⟨_,rfl,h⟩ | exact .inr (.inl ⟨_,rfl,h⟩) | exact .inr (.inr ⟨_,rfl,h⟩)
 ·cases a<;>exact False.elim h
theorem jA {xs:List D} {R:D→Prop}:ja [.lst xs] R↔R (.tup xs):=Iff.rfl
theorem jx {xs:List D} {R:D→Prop}:ja [.tup xs] R↔R (.tup xs):=Iff.rfl
theorem lL:bx X (.type "tuple") (aU X.K ja) :=
 bx.imp de fun xs H Q ⟨M,ds,R,m,rs,h,k⟩=>by
  replace h:=kB h
  rcases h with ⟨_,rfl,h⟩ | ⟨_,rfl,h⟩ | ⟨_,rfl,h⟩
  ·obtain ⟨x,rfl,q⟩:=aW rs
   unfold Rep at q
   obtain ⟨a,vs,rfl,_,e,r⟩:=q
   refine⟨a,vs,rfl,.inl ⟨SqL.of e,fun l hl=>k _ h _ _ (al hl _) ?_⟩⟩
   unfold Rep
   exact⟨l,vs,rfl,SqT.of ak,Reps.kp (Kp.of_same (al hl _)) _ _ r⟩
  ·obtain ⟨x,rfl,q⟩:=aW rs
   unfold Rep at q
   obtain ⟨a,vs,rfl,e,r⟩:=q
   refine⟨a,vs,rfl,.inl ⟨e.seq,fun l hl=>k _ h _ _ (al hl _) ?_⟩⟩
   unfold Rep
   exact⟨l,vs,rfl,SqT.of ak,Reps.kp (Kp.of_same (al hl _)) _ _ r⟩
  ·obtain ⟨x,rfl,q⟩:=aW rs
   have q0:=q
   unfold Rep at q
   obtain ⟨a,vs,rfl,e,r⟩:=q
   exact⟨a,vs,rfl,.inr ⟨e,k _ h _ _ (Same.refl H) q0⟩⟩
variable {a b e:Expr} {ta tb:TDE} {pos:Pos}
def dPop (i j:Nat):TDS:=fun R δ=>∃ a ds y,δ[i]?=some (.own a (.lst (ds++[y])))∧R.nx ((δ.set i (.own a (.lst ds))).set j (.dat y))
theorem lC (i j:Nat) {x y:Str} {p apos cpos pos':Pos} (hN:X.N.Nodup) (hi:X.N[i]?=some y:=by rfl) (hj:X.N[j]?=some x:=by rfl) (hx:Loc X.env.scope x:=by walk_at "v2") (hv:Vis X.env.scope y:=by walk_at "v3")
  (hd:(y == ("__debug__":Str))=false:=by decide) (hcd:(y == ("__classdict__":Str))=false:=by decide)
  (hbase:attributeBase (.Name y p) "pop" X.env (eval (.Name y p) X.env)=eval (.Name y p) X.env:=by rfl) (hline:(apos.endLine == cpos.line)=true:=by rfl)
  (hsw:swapsWith (.Call (.Attribute (.Name y p) "pop" apos) [] [] cpos) (some (.Name x pos')) pos.line X.env=pure false:=by rfl)
  (hf:X.fn x=true∨X.env.scope.names.lookup x=some .local :=by walk_at "v1") :
  DS X (.Assign [.Name x pos'] (.Call (.Attribute (.Name y p) "pop" apos) [] [] cpos) pos) (dPop i j) :=
 PS.imp (et hN hj hx (lq PySem.F.plainAttrs_list PySem.F.slot_list_pop PySem.F.type_list_pop rj (a8 hi hv hd hcd) hbase hline) hsw hf) fun E σ H ⟨G,δ,P,R,⟨A,q⟩,⟨a,ds,y,e,r⟩,k,_⟩=>by
  obtain ⟨h1,aa,vs,hvs,rs⟩:=cR q e
  have hl:=Reps.length _ _ rs
  rw [uK,List.length_singleton] at hl
  obtain ⟨v,ev,rv⟩:=Reps.get _ _ rs ds.length y (by simp)
  have e1:vs.length - 1=ds.length:=by omega
  refine⟨.ref a,h1,.inl ⟨rfl,vs,SqL.of hvs⟩,a,vs,v,rfl,rfl,hvs,by rw [e1];exact ev,k _ r _ _ ?_⟩
  have rt:=Reps.take ds.length _ _ rs
  rw [List.take_left] at rt
  have e2:vs.take ds.length=vs.dropLast:=by rw [List.dropLast_eq_take,e1]
  rw [e2] at rt
  have hk:∀ b o,b≠a→H b=some o→upd H a (.lst vs.dropLast) b=some o:=fun b o n e=>by rw [ap n];exact e
  have kp:Kp (fun b=>G.M0 b∨A b) H (upd H a (.lst vs.dropLast)) :=
   ⟨fun b o e n=>hk b o (fun z=>n (.inr (by rw [z];exact aa))) e,fun b xs e=>hk b _ (fun z=>by rw [z,hvs] at e;cases e) e,fun b o u e=>hk b _ (fun z=>by rw [z,hvs] at e;cases e) e⟩
  have q1:=(q.change (d':=.lst ds) e hk ⟨vs.dropLast,ak,Reps.kp kp _ _ rt⟩).push (Rep.kp kp _ _ rv)
  exact⟨A,q1.set (P':=P) (by simp) fun p hp=>by simp [hp]⟩
end
end DL
namespace DL
open PySem PySem.Spec PyProof.Rows L2
section
variable {prog:Program} {w:World} {A:Around} {E:Value→Shared→Prop}
theorem fB {it l:Addr} {us:List Value} (ne:l≠it):∀ (rest:List Value) (i:Nat) (s:Shared) (Q:List Value→Shared→Prop),us.drop i=rest→s.heap.IsListIter it l i→s.heap.IsList l us.toArray →
  (∀ h',h'.IsListIter it l (i + rest.length)→Heap.SameBut it s.heap h'→Q rest { s with heap:=h' })→wpAny (model prog w) A (draw (.ref it) rest.length) Q E s
 | [],i,s,Q,_,si,_,k=>wpAny_pure (k s.heap si (Heap.SameBut.refl ..))
 | u :: rest,i,s,Q,e,si,sl,k=>by
  have hu:us[i]?=some u:=by
   have:=congrArg (fun z=>z[0]?) e
   simpa using this
  have hr:us.drop (i + 1)=rest:=by
   have:=congrArg List.tail e
   rw [List.tail_drop] at this
   simpa using this
  refine wpAny_bind (wpAny_pyNext_list_item si sl (x:=u) (by simpa using hu) fun h1 s1 b1=>wpAny_bind (wpAny_holding ?_))
  have sl1:h1.IsList l us.toArray:=by
   obtain ⟨o,ho,r⟩:=sl
   exact⟨o,(b1.2 l ne).trans ho,r⟩
  refine fB ne rest (i + 1) { s with heap:=h1 } _ hr s1 sl1 fun h2 s2 b2=>wpAny_pure ?_
  refine k h2 ?_ (b1.trans b2)
  rw [uM,Nat.add_comm rest.length 1,← Nat.add_assoc]
  exact s2
theorem fT {l:Addr} {us:List Value} {s:Shared} {Q:List Value→Shared→Prop} (hh:A.handled=none) (sl:s.heap.IsList l us.toArray)
  (k:∀ h',(∀ b o,s.heap.get? b=some o→h'.get? b=some o)→Q us { s with heap:=h' }):wpAny (model prog w) A (unpackItems (.ref l) us.length none) Q E s:=by
 have hlt:l < s.heap.objs.size:=let ⟨_,ho,_⟩:=sl;Heap.lt_size ho
 have ty:s.TypeIs (.ref l) "list":=let ⟨o,ho,hc,_⟩:=sl;⟨o,ho,hc⟩
 unfold unpackItems notIterableAtAll
 refine wpAny_bind (wpAny_bind (wpAny_specialOf ty F.slot_list_iter.lookup (wpAny_pure ?_)))
 rw [if_neg Bool.false_ne_true]
 refine wpAny_bind (wpAny_holding (wpAny_pyIter_list sl (wpAny_bind (wpAny_holding ?_))))
 have sl0:∀ o:Obj,(s.heap.push o).IsList l us.toArray:=fun o=>let ⟨q,ho,r⟩:=sl;⟨q,uE _ ho,r⟩
 refine fB (us:=us) (Nat.ne_of_lt hlt) us 0 _ _ (List.drop_zero ..) ⟨_,uW _ rfl,rfl,rfl⟩ (sl0 _) fun h1 s1 b1=>?_
 rw [if_neg (Nat.lt_irrefl _)]
 have sl1:h1.IsList l us.toArray:=by
  obtain ⟨o,ho,r⟩:=sl
  exact⟨o,(b1.2 l (Nat.ne_of_lt hlt)).trans (uE _ ho),r⟩
 refine wpAny_bind (wpAny_holding (wpAny_pyNext_list_end hh s1 sl1 (by simp) fun h2 b2=>?_))
 rw [if_neg (show ¬ ((none:Option Value).isSome=true) from Bool.false_ne_true)]
 refine wpAny_pure (k h2 fun b o e=>?_)
 have nb:b≠s.heap.objs.size:=Nat.ne_of_lt (Heap.lt_size e)
 exact b2 b o nb ((b1.2 b nb).trans (uE _ e))
end
section
variable {X:Cx} {pos:Pos}
def gLst (K:PySem.W.Frag) (n:Nat) (t:TGs):TG:=fun v σ H Q=>∃ a xs,v=.ref a∧SqL K H a xs∧xs.length=n∧t xs σ H Q
theorem r9 {es:List Expr} {k:Nat} {t:TGs} {n:Nat} (hc:X.calm=true) (h:PGs X es t) (hn:(assignEach es X.env).length=n:=by rfl) (hst:(assignEach es X.env).findIdx? (·.1)=none:=by rfl):PG X (.Tuple es k pos) (gLst X.K n t):=by
 intro pins s σ H v u Q I r ⟨a,xs,e,hq,hl,hw⟩
 subst e
 cases r
 obtain ⟨us,rv,pl,_⟩:=I.list hq
 rw [arm_assign_Tuple]
 refine wpAny_bind (wpAny_standAt ?_)
 unfold unpack
 rw [hst,hn,← hl,rv.length]
 exact wpAny_bind (wpAny_holding (fT (I.ok.hd hc) pl.isList fun h' kp=>h pins _ σ H xs _ Q (I.kept (t':=s.toks) kp) rv hw))
def qW (n:Nat) (t:TDGs):TDG:=fun d δ R=>∃ xs,d=.lst xs∧xs.length=n∧t xs δ R
theorem kC {es:List Expr} {kk n:Nat} {gs:TDGs} (hc:X.calm=true) (h:DGs X es gs) (hn:(assignEach es X.env).length=n:=by rfl) (hst:(assignEach es X.env).findIdx? (·.1)=none:=by rfl):DG X (.Tuple es kk pos) (qW n gs) :=
 PG.imp (r9 hc h hn hst) fun v σ H Q ⟨G,δ,P,d,R,⟨A,x⟩,⟨xs,e,hl,h⟩,k⟩=>by
  subst e
  have q:=x.pnd (.lst xs,v) (by simp)
  unfold Rep at q
  obtain ⟨a,vs,e,_,sq,r⟩:=q
  subst e
  have lv:=Reps.length _ _ r
  refine⟨a,vs,rfl,SqL.of sq,by rw [← lv];exact hl,G,δ,P,xs,R,lv,⟨A,?_⟩,h,k⟩
  have each:∀ (ds:List D) (ws:List V),Reps X.K (fun b=>G.M0 b∨A b) H ds ws→∀ p∈ds.zip ws,Rep X.K (fun b=>G.M0 b∨A b) H p.1 p.2:=by
   intro ds
   induction ds with
   | nil=>intro ws _ p hp;cases hp
   | cons d ds ih =>
    intro ws hr p hp
    unfold Reps at hr
    obtain ⟨w',rest,rfl,q1,q2⟩:=hr
    rcases uG.mp hp with rfl | hp
    ·exact q1
    ·exact ih rest q2 p hp
  have y:=x.sub (P':=P) fun p hp=>uB _ hp
  exact⟨y.old,y.stay,y.m0,y.pm,y.new,y.thr,y.len,y.dat,y.own,y.inj,fun p hp=>(uJ.mp hp).elim (each xs vs r p) (y.pnd p)⟩
end
end DL
namespace DL
open PySem PySem.Spec PyProof.Rows L2
structure GInt (mg:Str→Option Value) (x:Str) (i:Int):Prop where
 ex:∃ t,mg x=some (.int i t)
structure GTab (K:PySem.W.Frag) (mg:Str→Option Value) (x:Str) (D:List (Str×Str)):Prop where
 ex:∃ a,mg x=some (.ref a)∧KTD.tabLook (KTD.datLooks fun b=>K.lookup b) (fun b=>K.lookup b) a (txt D)=true
theorem nS (k:Str):∀ D:List (Str×Str),KTD.datumAt k (txt D)=(KTD.datumAt k D).map fun v=>KTD.Dat.flat (.str v)
 | []=>rfl
 | (x,d) :: D=>by
  show (if decide (k=x)=true then some (KTD.Dat.flat (.str d)) else KTD.datumAt k (txt D))=(if decide (k=x)=true then some d else KTD.datumAt k D).map _
  rw [nS k D]
  by_cases h:decide (k=x)=true
  ·rw [if_pos h,if_pos h];rfl
  ·rw [if_neg h,if_neg h]
theorem iY {h:Heap} {k:Str} {P:Value→Prop}:∀ (D:List (Str×Str)),(∀ v,KTD.datumAt k D=some v→∀ t,P (.str v t))→KTD.EachL h k P (txt D)
 | [],_=>trivial
 | (x,d) :: D,hq=>by
  show KTD.EachL h k P ((x,KTD.Dat.flat (.str d)) :: txt D)
  by_cases e:k=x
  ·exact KTD.eachL_hit e (KTD.opened_str fun t=>hq d (by show (if decide (k=x)=true then some d else _)=_;rw [if_pos (decide_eq_true e)]) t)
  ·exact KTD.eachL_miss e (iY D fun v hv=>hq v (by show (if decide (k=x)=true then some d else _)=_;rw [if_neg (by simp [e])];exact hv))
section
variable {X:Cx} {b:Expr} {tb:TDE} {pos p:Pos}
theorem lN {x:Str} {i:Int} (hg:Gl X x) (h:GInt X.mg x i) (hd:(x == ("__debug__":Str))=false:=by decide):DE X (.Name x pos) (dC (.int i)):=by
 obtain ⟨t,e⟩:=h.ex
 exact de_c (eJ (v:=.int i) hg e ⟨t,rfl⟩ hd) rfl
def sJ (D:List (Str×Str)) (ty:TE):TE:=fun σ H Q=>ty σ H fun y H1=>∃ k v,y=.str k∧KTD.datumAt k D=some v∧Q (.str v) H1
theorem ph {x:Str} {D:List (Str×Str)} {ty:TE} (hg:Gl X x) (T:GTab X.K X.mg x D) (hb:PE X b ty) (hs:NoSl b) (hd:(x == ("__debug__":Str))=false:=by decide):PE X (.Subscript (.Name x p) b pos) (sJ D ty):=by
 obtain ⟨a,hm,hl⟩:=T.ex
 intro pins s σ H Q I h
 refine Subscript_ (thn (eJ (v:=.ref a) hg hm rfl hd pins s σ H (fun y0 H0=>y0=.ref a∧sJ D ty σ H0 Q) I ⟨rfl,h⟩) fun u s1 ⟨y0,H0,I0,r0,e0,q0⟩=>?_)
 subst e0
 cases r0
 refine thn (hb pins s1 σ H0 _ I0 q0) fun iv s2 ⟨y,H1,I1,ry,k,v,ey,ev,q⟩=>?_
 subst ey
 obtain ⟨t,rfl⟩:=ry
 have T2:KTD.TextTab s2.heap a (txt D):=PySem.W.kt_text_in I1.kIn hl
 refine KTD.item_text (h₀:=s2.heap) (D:=txt D) ⟨T2,fun _ _ e=>e⟩ ?_ (iY D fun v' hv t'=>?_) (hs _ _)
 ·rw [← KTD.isSome_datumAt,nS,ev];rfl
 ·rw [ev] at hv
  cases hv
  exact⟨.str v,H1,I1.tok _,⟨t',rfl⟩,q⟩
def rg (D:List (Str×Str)) (t:TDE):TDE:=fun δ R=>t δ (wd fun z δ1=>∃ k v,z=.str k∧KTD.datumAt k D=some v∧R (.d (.str v)) δ1)
theorem km {x:Str} {D:List (Str×Str)} (hg:Gl X x) (T:GTab X.K X.mg x D) (hb:DE X b tb) (hs:NoSl b) (hd:(x == ("__debug__":Str))=false:=by decide):DE X (.Subscript (.Name x p) b pos) (rg D tb) :=
 PE.imp (ph hg T hb hs hd) fun σ H Q ⟨G,δ,P,R,s,h,k,_⟩=>up.mk s h fun z δ1 ⟨y,v,ez,ev,r⟩ u H1 s1=>by
  subst ez
  obtain ⟨A,q⟩:=id s1
  exact⟨y,v,ci (q.pnd (.str y,u) (by simp)),ev,k _ δ1 r _ H1 ((s1.sub (P':=P) fun p hp=>by simp [hp]).sc rfl)⟩
end
end DL
namespace DL
open PySem PySem.Spec PyProof.Rows L2
def fMax:List D→(D→Prop)→Prop
 | [.int i,.int j],R=>R (.int (max i j))
 | [.lst ds],R=>∃ ns:List Int,ds=ns.map D.int∧0 < ns.length∧∀ M∈ns,(∀ a∈ns,a≤M)→R (.int M)
 | _,_=>False
theorem oH {d0:List D} {R:D→Prop} (h:fMax d0 R):(∃ (i:Int) (j:Int),d0=[.int i,.int j]∧R (.int (max i j)))∨(∃ (ds:List D),d0=[.lst ds]∧∃ ns:List Int,ds=ns.map D.int∧0 < ns.length∧∀ M∈ns,(∀ a∈ns,a≤M)→R (.int M)):=by
 rcases d0 with _ | ⟨a,_ | ⟨b,_ | ⟨c,l⟩⟩⟩
 ·exact False.elim h
 ·cases a<;>first | exact False.elim h | exact .inl ⟨_,_,rfl,h⟩ | exact .inr ⟨_,rfl,h⟩
 ·cases a<;>first | exact False.elim h | (cases b<;>first | exact False.elim h | exact .inl ⟨_,_,rfl,h⟩ | exact .inr ⟨_,rfl,h⟩)
 ·cases a<;>first | exact False.elim h | (cases b<;>exact False.elim h)
theorem mx {i j:Int} {R:D→Prop}:fMax [.int i,.int j] R↔R (.int (max i j)):=Iff.rfl
theorem mH {ds:List D} {R:D→Prop}:fMax [.lst ds] R↔∃ ns:List Int,ds=ns.map D.int∧0 < ns.length∧∀ M∈ns,(∀ a∈ns,a≤M)→R (.int M):=Iff.rfl
theorem gL {K:PySem.W.Frag} {M:Addr→Prop} {H:Hp}:∀ {ns:List Int} {vs:List V},Reps K M H (ns.map D.int) vs→vs=ns.map V.int
 | [],vs,h=>by unfold Reps at h;exact h
 | s :: ss,vs,h=>by
  rw [List.map_cons] at h
  unfold Reps at h
  obtain ⟨v,r,rfl,q,t⟩:=h
  rw [aH q,gL t];rfl
theorem fi:∀ {ns:List Int} {us:List Value},Vals (ns.map V.int) us→IntsAre us ns
 | [],_,r=>by rw [List.map_nil] at r;cases r;exact .nil
 | n :: ns,_,r=>by
  rw [List.map_cons] at r
  cases r with
  | @cons _ u _ us h t =>
   obtain ⟨t',e⟩:=(show ∃ t,u=Value.int n t from h)
   subst e
   exact .cons _ _ (fi t)
theorem mB {X:Cx} (hc:X.calm=true):bx X (.builtin "max") (aU X.K fMax):=by
 intro pins s σ H xs us Q I rv h
 obtain ⟨M,ds,R,m,rs,h,k⟩:=h
 replace h:=oH h
 rcases h with ⟨i,j,rfl,h⟩ | ⟨_,rfl,h⟩
 ·skip
  refine kc hc pins s σ H xs us Q I rv ?_
  obtain ⟨x,y,rfl,h1,h2⟩:=mZ rs
  refine⟨i,j,by rw [aH h1,aH h2],k _ h _ H (Same.refl H) ?_⟩
  unfold Rep
  congr 1
  by_cases z:j > i
  ·rw [if_pos z];omega
  ·rw [if_neg z];omega
 ·obtain ⟨ns,rfl,hpos,h⟩:=h
  obtain ⟨x,rfl,q⟩:=aW rs
  unfold Rep at q
  obtain ⟨a,vs,rfl,_,e,r⟩:=q
  obtain ⟨u,rfl,ru⟩:=fP rv
  cases ru
  cases gL r
  obtain ⟨its,rv2,pl,_⟩:=I.list (SqL.of e)
  have hi:=fi rv2
  obtain ⟨ys,ey⟩:=hi.allInts.items
  have hn:ys.toList.map (·.1)=ns:=by
   have e1:=nums_intItems ys
   rw [← ey] at e1
   exact e1.symm.trans hi.numsOf
  have hz:ys.size=ns.length:=by rw [← hn,uA,Array.length_toList]
  have hl:=pl.isList
  rw [ey] at hl
  refine max_intList (I.ok.hd hc) hl (by omega) fun v h' tk hv hk=>?_
  obtain ⟨t,rfl⟩:=intItems_at hv
  obtain ⟨h1,h2⟩:=argBest_gt (numAt ys) (ys.size - 1)
  refine⟨.int _,H,I.kept (t':=tk) hk,⟨t,rfl⟩,k _ (h _ ?_ fun b hb=>?_) _ H (Same.refl H) (Rep.sc rfl)⟩
  ·rw [numAt_eq,hn]
   have hlt:argBest (fun i j=>decide (numAt ys i > numAt ys j)) (ys.size - 1) < ns.length:=by omega
   rw [List.getD_eq_getElem?_getD,uZ hlt]
   exact List.getElem_mem hlt
  ·obtain ⟨j,hj,ej⟩:=List.getElem_of_mem hb
   have:=h2 j (by omega)
   rw [numAt_eq ys j,hn] at this
   have ej2:ns.getD j 0=b:=by rw [List.getD_eq_getElem?_getD,uZ hj];exact ej
   rw [ej2] at this
   exact this
end DL
namespace Mf
def gc (a b:Int):Int:=(Int.gcd a b:Nat)
structure Low (p q:Int):Prop where
 pos:0 < q
 cop:gc p q=1
end Mf
namespace Mf
open PySem L2 DL
def negT (ts:List (Str×Int)):List (Str×Int):=ts.map fun t=>(t.1,-t.2)
end Mf
namespace DL
open PySem PySem.Spec PyProof.Rows L2
end DL
namespace DL
open PySem PySem.Spec PyProof.Rows L2
def ItA (k:Bool) (h:Heap) (it a:Addr) (i:Nat):Prop:=match k with | true=>h.IsListIter it a i | false=>h.IsTupleIter it a i
section
variable {prog:Program} {w:World} {A:Around} {E:Value→Shared→Prop} {s:Shared}
end
def SqV (k:Bool) (K:PySem.W.Frag) (H:Hp) (a:Addr) (xs:List V):Prop:=match k with | true=>SqL K H a xs | false=>SqT K H a xs
theorem SqV.inj {k:Bool} {X:Cx} {pins:List (Addr×Obj)} {σ:L2.St} {H:Hp} {s:Shared} {a:Addr} {xs ys:List V} (I:Inv X pins σ H s) (h:SqV k X.K H a xs) (h':SqV k X.K H a ys):xs=ys:=by
 cases k
 ·exact I.tuple_inj h h'
 ·exact I.list_inj h h'
section
variable {X:Cx}
end
def sq (k:Bool) (xs:List D):D:=match k with | true=>.lst xs | false=>.tup xs
section
variable {X:Cx} {ta:TDA}
end
end DL
namespace DL
open PySem PySem.Spec PyProof.Rows L2
section
variable {X:Cx}
variable {e f:Expr} {ta tb:TDE} {pos:Pos}
end
end DL
namespace DL
open PySem PyProof.Rows
end DL
namespace DL
open PySem PySem.Spec PyProof.Rows L2
end DL
namespace Mf
open PySem L2 DL
def tmD (t:Str×Int):D:=.tup [.str t.1,.int t.2]
structure jX (names:List Str) (ts:List (Str×Int)):Prop where
 sub:(ts.map (·.1)).Sublist names
 nz:∀ t∈ts,t.2≠0
 bits:∀ t∈ts,Builtin.Int.intBits t.2≤10000
theorem cA {α:Type} {l:List α} {i:Nat} {x:α} (h:l[i]?=some x):l.take (i + 1)=l.take i++[x]:=by rw [List.take_add_one,h];rfl
inductive Kd where
 | least | more
def kdS:Kd→Str
 | .least=>"least"
 | .more=>"more"
def rowD (k:Kd) (ts:List (Str×Int)) (b:Int):D:=.tup [.str (kdS k),.tup (ts.map tmD),.int b]
theorem fN:∀ ts:List (Str×Int),D.nds (ts.map tmD)=true
 | []=>rfl
 | t :: r=>by rw [List.map_cons];unfold D.nds;rw [fN r];rfl
theorem gb:∀ ts:List (Str×Int),D.dps (ts.map tmD)≤1
 | []=>Nat.zero_le _
 | t :: r=>by
  rw [List.map_cons];unfold D.dps
  exact Nat.max_le.mpr ⟨by show 1≤1;decide,gb r⟩
def frD (p:Int×Int):D:=.tup [.int p.1,.int p.2]
def ptOf (ks:List Str) (ps:List (Int×Int)) (n:Str):Int×Int:=(dAt ks ps n).getD (0,1)
def pT (ks:List Str) (ps:List (Int×Int)) (n:Str):Int:=(ptOf ks ps n).1
def pB (ks:List Str) (ps:List (Int×Int)) (n:Str):Int:=(ptOf ks ps n).2
theorem lu {α β:Type} (f:α→β):∀ (ks:List Str) (ps:List α) (n:Str),dAt ks (ps.map f) n=(dAt ks ps n).map f
 | [],ps,n=>by cases ps<;>rfl
 | k :: ks,[],n=>rfl
 | k :: ks,p :: ps,n=>by
  show (if k=n then some (f p) else dAt ks (ps.map f) n)=(if k=n then some p else dAt ks ps n).map f
  by_cases e:k=n
  ·rw [if_pos e,if_pos e];rfl
  ·rw [if_neg e,if_neg e];exact lu f ks ps n
theorem kJ {α:Type}:∀ {ks:List Str} {ps:List α} {n:Str} {p:α},dAt ks ps n=some p→p∈ps
 | [],ps,n,p,h=>by cases ps<;>cases h
 | k :: ks,[],n,p,h=>by cases h
 | k :: ks,x :: ps,n,p,h=>by
  have h:(if k=n then some x else dAt ks ps n)=some p:=h
  by_cases e:k=n
  ·rw [if_pos e] at h;cases h;exact uF ..
  ·rw [if_neg e] at h;exact uB _ (kJ h)
theorem jl {α:Type} {l:List α} {i:Nat} {x:α} (h:l[i]?=some x):i < l.length:=(uL.mp h).1
def cf:List (Str×Int)→Str→Int
 | [],_=>0
 | t :: r,n=>(if t.1=n then t.2 else 0) + cf r n
theorem IsSum.ext {F:Str→Int} {ts us:List (Str×Int)} (h1:∀ t∈ts,t.2=F t.1) (h2:∀ t∈us,t.2=F t.1) (h:ts.map (·.1)=us.map (·.1)):ts=us:=by
 have e:∀ {l:List (Str×Int)},(∀ t∈l,t.2=F t.1)→l=(l.map (·.1)).map fun n=>(n,F n):=fun {l} hl=>by
  rw [List.map_map]
  conv=>lhs;rw [← List.map_id l]
  refine List.map_congr_left fun t ht=>?_
  show t=(t.1,F t.1)
  rw [← hl t ht]
 rw [e h1,e h2,h]
structure Pt (ks:List Str) (ps:List (Int×Int)) (X:Nat):Prop where
 len:ps.length=ks.length
 low:∀ p∈ps,Low p.1 p.2
 b1:∀ p∈ps,Builtin.Int.intBits p.1≤X
 b2:∀ p∈ps,Builtin.Int.intBits p.2≤X
theorem Pt.at {ks:List Str} {ps:List (Int×Int)} {X:Nat} {n:Str} (hp:Pt ks ps X) (h:n∈ks):dAt ks ps n=some (ptOf ks ps n)∧ptOf ks ps n∈ps:=by
 have e:=jc (ks:=ks) (ds:=ps) (x:=n) hp.len.symm
 rw [decide_eq_true h] at e
 cases q:dAt ks ps n with
 | none=>rw [q] at e;cases e
 | some p =>
  have:ptOf ks ps n=p:=by unfold ptOf;rw [q];rfl
  rw [this]
  exact⟨rfl,kJ q⟩
theorem Pt.D {ks:List Str} {ps:List (Int×Int)} {X:Nat} {n:Str} (hp:Pt ks ps X) (h:n∈ks):dAt ks (ps.map frD) n=some (.tup [.int (pT ks ps n),.int (pB ks ps n)]):=by
 rw [lu,(hp.at h).1];rfl
theorem Pt.pos {ks:List Str} {ps:List (Int×Int)} {X:Nat} {n:Str} (hp:Pt ks ps X) (h:n∈ks):0 < pB ks ps n:=(hp.low _ (hp.at h).2).pos
theorem Pt.mono {ks:List Str} {ps:List (Int×Int)} {X Y:Nat} (hp:Pt ks ps X) (h:X≤Y):Pt ks ps Y:=⟨hp.len,hp.low,fun p hq=>uD (hp.b1 p hq) h,fun p hq=>uD (hp.b2 p hq) h⟩
end Mf
namespace DL
open PySem PySem.Spec PyProof.Rows L2
section
variable {X:Cx} {pos:Pos} {a b e:Expr} {es:List Expr} {ta tb:TDE} {t:TDA}
end
end DL
namespace DL
open PySem PySem.Spec PyProof.Rows L2
section
variable {X:Cx}
end
section
variable {X:Cx} {tg:Expr}
end
end DL
namespace DL
open PySem PySem.Spec PyProof.Rows L2
section
variable {P:Program} {w:World} {h h':Heap} {a:Addr} {es:Array (Int×Value)} {ep:Nat} {t:SetTable}
end
section
variable {prog:Program} {w:World} {A:Around} {E:Value→Shared→Prop} {s:Shared}
end
section
variable {prog:Program} {w:World} {A:Around} {R:Result→Shared→Prop} {I:Addr} {fp wr:List Addr} {G:Array GenState→Array GenState→Prop} {n:Nat} {P:Nat→Value→Prop} {St:Nat→Shared→Prop}
end
section
variable {prog:Program} {w:World} {A:Around} {E:Value→Shared→Prop} {s:Shared}
set_option maxRecDepth 100000 in
set_option maxHeartbeats 3200000 in
end
end DL
namespace DL
open PySem PySem.Spec PyProof.Rows L2
namespace FS
end FS
section
variable {prog:Program} {w:World} {A:Around} {E:Value→Shared→Prop} {s:Shared}
end
section
variable {prog:Program} {w:World} {A:Around} {E:Value→Shared→Prop} {s:Shared} {I S:Addr} {es:Array (Int×Value)} {ep:Nat} {t:SetTable} {F:Heap→Nat→Value→Prop} {vs:List Value}
set_option maxHeartbeats 1000000 in
set_option maxHeartbeats 1000000 in
end
end DL
namespace DL
open PySem PySem.Spec PyProof.Rows L2
section
variable {prog:Program} {w:World} {A:Around} {E:Value→Shared→Prop} {s:Shared} {I S:Addr} {es:Array (Int×Value)} {ep:Nat} {t:SetTable} {F:Heap→Nat→Value→Prop} {vs:List Value}
set_option maxHeartbeats 2000000 in
end
section
variable {X:Cx} {e:Expr} {p p2 pos pos2:Pos} {te:TE}
end
end DL
namespace DL
open PySem PySem.Spec PyProof.Rows L2
section
variable {K:PySem.W.Frag} {G:Gf} {A:Addr→Prop} {δ:List Sl} {P:List (D×V)} {σ:L2.St} {H:Hp}
end
section
variable {X:Cx} {tg e:Expr} {te:TDE}
end
end DL
namespace DL
open PySem PySem.Spec PyProof.Rows L2
section
variable {X:Cx} {pos:Pos} {e:Expr}
end
section
variable {X:Cx} {pos:Pos} {e:Expr} {ta:TDE}
end
section
variable {P:Program} {w:World} {K:PySem.W.Frag} {mg:Str→Option Value} {base:Heap}
end
section
variable {X:Cx}
end
end DL
namespace DL
open PySem PySem.Spec PyProof.Rows L2
section
variable {X:Cx}
end
end DL
namespace DL
open PySem PySem.Spec PyProof.Rows L2
section
variable {X:Cx} {tg e:Expr} {te:TDE}
end
end DL
namespace DL
open PySem PySem.Spec PyProof.Rows L2
end DL
namespace DL
open PySem PySem.Spec PyProof.Rows L2
section
variable {X:Cx} {pos:Pos} {a b e:Expr} {ta tb:TDE}
end
section
variable {K:PySem.W.Frag} {G:Gf} {A A':Addr→Prop} {δ δ':List Sl} {P P':List (D×V)} {σ σ':L2.St} {H H':Hp} {p:Addr}
end
section
variable {X:Cx} {pos:Pos} {a b e:Expr} {ta tb:TDE}
end
end DL
namespace DL
open PySem PySem.Spec PyProof.Rows L2
theorem FdK.fd {K:PySem.W.Frag} {x:Str} {st:Stmt} {h:Heap} {mg:Str→Option Value} {ps:List Str} (q:FdK K x st) (X:K.In h) (G:h.Ns mainGlobals mg)
  (b:∀ (kV doc pm:Value) (an:Option Addr) (cdv ct:Value) (us:List Value),us.length=ps.length→bindArgs (PySem.W.fnOf x x (ba st) (aM st) (ah st) .none kV doc pm an cdv ct) ⟨us,[]⟩=pure (ps.zip us)):Fd K mg x st ps:=by
 obtain ⟨f,oc,od,an,sl,kV,dc,pm,cd,ct,a,l,c,k⟩:=q.ex
 have F:=nL (st:=st) l c k
 exact⟨_,_,F,F.binds (ps:=ps) b,PySem.W.mg_of X G a⟩
theorem f7 {α:Type} {l:List α} {n:Nat} (h:l.length=n + 1):∃ a r,l=a :: r∧r.length=n:=by
 cases l with
 | nil=>cases h
 | cons a r=>exact⟨a,r,rfl,Nat.succ.inj h⟩
theorem len1 {α:Type} {l:List α} (h:l.length=1):∃ a,l=[a]:=by
 obtain ⟨a,r,rfl,h1⟩:=f7 h
 rw [List.eq_nil_of_length_eq_zero h1]
 exact⟨a,rfl⟩
theorem len2 {α:Type} {l:List α} (h:l.length=2):∃ a b,l=[a,b]:=by
 obtain ⟨a,r,rfl,h1⟩:=f7 h
 obtain ⟨b,rfl⟩:=len1 h1
 exact⟨a,b,rfl⟩
theorem len3 {α:Type} {l:List α} (h:l.length=3):∃ a b c,l=[a,b,c]:=by
 obtain ⟨a,r,rfl,h1⟩:=f7 h
 obtain ⟨b,c,rfl⟩:=len2 h1
 exact⟨a,b,c,rfl⟩
theorem FdK.fd1 {K:PySem.W.Frag} {x x1:Str} {st:Stmt} {h:Heap} {mg:Str→Option Value} (q:FdK K x st) (X:K.In h) (G:h.Ns mainGlobals mg)
  (b:∀ (kV doc pm:Value) (an:Option Addr) (cdv ct u1:Value),bindArgs (PySem.W.fnOf x x (ba st) (aM st) (ah st) .none kV doc pm an cdv ct) ⟨[u1],[]⟩=pure [(x1,u1)]):Fd K mg x st [x1] :=
 q.fd X G fun kV doc pm an cdv ct us hl=>by
  obtain ⟨u1,rfl⟩:=len1 hl
  exact b kV doc pm an cdv ct u1
theorem FdK.fd2 {K:PySem.W.Frag} {x x1 x2:Str} {st:Stmt} {h:Heap} {mg:Str→Option Value} (q:FdK K x st) (X:K.In h) (G:h.Ns mainGlobals mg)
  (b:∀ (kV doc pm:Value) (an:Option Addr) (cdv ct u1 u2:Value),bindArgs (PySem.W.fnOf x x (ba st) (aM st) (ah st) .none kV doc pm an cdv ct) ⟨[u1,u2],[]⟩=pure [(x1,u1),(x2,u2)]):Fd K mg x st [x1,x2] :=
 q.fd X G fun kV doc pm an cdv ct us hl=>by
  obtain ⟨u1,u2,rfl⟩:=len2 hl
  exact b kV doc pm an cdv ct u1 u2
theorem FdK.fd3 {K:PySem.W.Frag} {x x1 x2 x3:Str} {st:Stmt} {h:Heap} {mg:Str→Option Value} (q:FdK K x st) (X:K.In h) (G:h.Ns mainGlobals mg)
  (b:∀ (kV doc pm:Value) (an:Option Addr) (cdv ct u1 u2 u3:Value),bindArgs (PySem.W.fnOf x x (ba st) (aM st) (ah st) .none kV doc pm an cdv ct) ⟨[u1,u2,u3],[]⟩=pure [(x1,u1),(x2,u2),(x3,u3)]):Fd K mg x st [x1,x2,x3] :=
 q.fd X G fun kV doc pm an cdv ct us hl=>by
  obtain ⟨u1,u2,u3,rfl⟩:=len3 hl
  exact b kV doc pm an cdv ct u1 u2 u3
theorem rm {j k:Nat} {A:Around} (h:Room k A) (e:j≤k:=by decide):Room j A:=h.mono e
end DL
namespace DL
open PySem PySem.Spec PyProof.Rows L2
structure C2 (h:Heap) (C N R NR:Addr) (mN mR:Str→Option Value):Prop where
 hC:∃ nm q bs sn sub ab col dd k0 k1 k2 k3 k5,h.get? C=some (excClassObj nm q C N bs (.ref R :: bmV) true sn sub ab col dd k0 k1 k2 k3 k5 "ValueError.__new__")
 hR:∃ nm q bs sn sub ab col dd k0 k1 k2 k3 k5,h.get? R=some (excClassObj nm q R NR bs bmV true sn sub ab col dd k0 k1 k2 k3 k5 "ValueError.__new__")
 nN:h.Ns N mN
 nR:h.Ns NR mR
 ini:mR "__init__"=none
theorem C2.keep {h h':Heap} {C N R NR:Addr} {mN mR:Str→Option Value} (c:C2 h C N R NR mN mR) (k:∀ b o,h.get? b=some o→h'.get? b=some o):C2 h' C N R NR mN mR:=by
 obtain ⟨⟨nm,q,bs,sn,sub,ab,col,dd,k0,k1,k2,k3,k5,hC⟩,⟨nm',q',bs',sn',sub',ab',col',dd',j0,j1,j2,j3,j5,hR⟩,nN,nR,i⟩:=c
 exact⟨⟨nm,q,bs,sn,sub,ab,col,dd,k0,k1,k2,k3,k5,k _ _ hC⟩,⟨nm',q',bs',sn',sub',ab',col',dd',j0,j1,j2,j3,j5,k _ _ hR⟩,nN.keeps k,nR.keeps k,i⟩
theorem C2.tail {h:Heap} {C N R NR:Addr} {mN mR:Str→Option Value} (c:C2 h C N R NR mN mR):OwnTail h bmV (.ref R :: bmV):=by
 obtain ⟨_,⟨nm',q',bs',sn',sub',ab',col',dd',j0,j1,j2,j3,j5,hR⟩,nN,nR,i⟩:=c
 exact .own hR nR i .base
section
variable {prog:Program} {w:World} {A:Around} {E:Value→Shared→Prop} {h:Heap} {g:Array GenState} {d:Drawn} {t:Nat} {os:OsState} {C N R NR:Addr} {mN mR:Str→Option Value}
theorem sD {M:Model} {name:Str} {y:Option Value} {Q:Option Value→Shared→Prop} (c:C2 h C N R NR mN mR) (hB:typeLookup (.type "ValueError") name=pure y)
  (hq:Q (match mN name with | some v=>some v | none=>match mR name with | some v=>some v | none=>y) ⟨h,g,d,t,os⟩):wpAny M A (typeLookup (.ref C) name) Q E ⟨h,g,d,t,os⟩:=by
 obtain ⟨⟨nm,q,bs,sn,sub,ab,col,dd,k0,k1,k2,k3,k5,hC⟩,⟨nm',q',bs',sn',sub',ab',col',dd',j0,j1,j2,j3,j5,hR⟩,nN,nR,i⟩:=c
 have hrest:lookupAlong bmV name=pure y:=by rw [typeLookup_eq,PySem.F.excBase_ValueError.mroIs] at hB;exact hB
 rw [typeLookup_eq]
 refine wpAny_bind (wpAny_mroOf_exc hC ?_)
 rw [lookupAlong_cons]
 refine wpAny_bind (wpAny_classOwn_exc hC nN ?_)
 cases hv:mN name with
 | some v=>rw [hv] at hq;exact wpAny_pure hq
 | none =>
  rw [hv] at hq
  show wpAny _ _ (lookupAlong (.ref R :: bmV) name) _ _ _
  rw [lookupAlong_cons]
  refine wpAny_bind (wpAny_classOwn_cls hR nR ?_)
  cases hu:mR name with
  | some v=>rw [hu] at hq;exact wpAny_pure hq
  | none =>
   rw [hu] at hq
   show wpAny _ _ (lookupAlong bmV name) _ _ _
   rw [hrest]
   exact wpAny_pure hq
set_option maxHeartbeats 2000000 in
theorem tY {rest:List Value} {fI:Addr} {oI:Obj} {Q:Value→Shared→Prop} (c:C2 h C N R NR mN mR) (hi:mN "__init__"=some (.ref fI)) (hfI:h.get? fI=some oI) (hfc:oI.cls=.type "function")
  (hq:∀ h' e,h.objs.size≤e→Heap.MadeExcOf h h' e (.ref C) rest→wpAny (model prog w) (A.under (.builtin "type.__call__" ⟨.ref C :: rest,[]⟩)) (call (.ref fI) (.ref e :: rest)) (fun r s'=>r=.none∧Q (.ref e) s') E ⟨h',g,d,t,os⟩) (hrest:rest.length≤sizeLine) :
  wpAny (model prog w) A (call (.ref C) rest) Q E ⟨h,g,d,t,os⟩:=by
 obtain ⟨nm,q,bs,sn,sub,ab,col,dd,k0,k1,k2,k3,k5,hC⟩:=c.hC
 have F:=PySem.F.excBase_ValueError
 have T:=c.tail
 have f1:=tc_lookup
 have f2:=tc_bind (.ref C)
 have hT:(⟨h,g,d,t,os⟩:Shared).TypeIs (.ref C) "type":=⟨_,hC,rfl⟩
 refine wpAny_call (codeAny_of_tree ?_)
 show wpAny _ _ (callAny (.ref C) ⟨rest,[]⟩) _ _ _
 repeat (any_goals (first | assumption | with_reducible refine wpAny_loadPart_at hC ?_ | wp_step))
 refine⟨rfl,codeAny_call_builtin_at (Code.quiet_builtin _ (by decide +kernel)) entry_typeCall (wpAny_check_type_call_sub hC ?_)⟩
 repeat (first | with_reducible refine wpAny_loadPart_at hC ?_ | with_reducible refine wpAny_madeBy_exc hC ?_ | wp_step)
 refine codeAny_call_builtin_code (Code.quiet_builtin _ F.quiet) (wpAny_check_new_subT F T hC (codeAny_exc_new_subT F T hC ?_ hrest))
 show wpAny _ _ _ _ _ _
 have hup:∀ b o,h.get? b=some o→((h.push { cls:=.type "tuple",data:=.seq rest.toArray }).push { cls:=.ref C,data:=.fields #[.ref h.objs.size,.none,.none,.none,.bool false,.none] }).get? b=some o:=fun b o e=>uE _ (uE _ e)
 have c1:=c.keep hup
 have hC1:=hup _ _ hC
 have hfI1:=hup _ _ hfI
 have hget:((h.push { cls:=.type "tuple",data:=.seq rest.toArray }).push { cls:=.ref C,data:=.fields #[.ref h.objs.size,.none,.none,.none,.bool false,.none] }).get? (h.objs.size + 1)=some { cls:=.ref C,data:=.fields #[.ref h.objs.size,.none,.none,.none,.bool false,.none] }:=by heap_get
 unfold isInstance
 repeat (first | with_reducible refine wpAny_loadPart_at hget ?_ | wp_step)
 show wpAny _ _ (isSubtype (.ref C) (.ref C)) _ _ _
 refine wpAny_isSubtype_exc hC1 ?_
 rw [show (Value.ref C :: (Value.ref R :: bmV)).contains (.ref C)=true by simp]
 repeat (first | with_reducible refine wpAny_loadPart_at hget ?_ | wp_step)
 show wpAny _ _ (typeLookup (.ref C) _) _ _ _
 refine sD c1 F.init.lookup ?_
 rw [hi]
 refine wpAny_holding (wpAny_bind ?_)
 unfold bindSpecial
 refine wpAny_bind (wpAny_typeOf (T:="function") ⟨_,hfI1,hfc⟩ ?_)
 rw [if_pos (by decide)]
 refine wpAny_pure (wpAny_bind (wpAny_mono (hq _ (h.objs.size + 1) (Nat.le_succ _) ⟨hup,Heap.get?_none_of_le (Nat.le_succ _),h.objs.size,hget,Heap.get?_none_of_le (Nat.le_refl _),?_⟩) (fun r s' hr=>?_) fun _ _ x=>x))
 ·exact uE _ (Heap.get?_push_at rfl rfl)
 ·obtain ⟨rfl,hQ⟩:=hr
  wp_walk
  exact hQ
theorem tP {e:Addr} {rest:List Value} {a0:Value} {Q:Value→Shared→Prop} (c:C2 h C N R NR mN mR) (he:h.get? e=some (xob C none a0 .none))
  (hq:∀ h' a,h'.get? e=some (xob C none a .none)→(∀ b o,b≠e→h.get? b=some o→h'.get? b=some o)→Q .none ⟨h',g,d,t,os⟩) (hrest:rest.length≤sizeLine) :
  wpAny (model prog w) A (call (.builtin "ValueError.__init__") (.ref e :: rest)) Q E ⟨h,g,d,t,os⟩:=by
 obtain ⟨nm,q,bs,sn,sub,ab,col,dd,k0,k1,k2,k3,k5,hC⟩:=c.hC
 have F:=PySem.F.excBase_ValueError
 refine wpAny_call (codeAny_call_builtin F.init.plain F.initEntry (wpAny_check_init_subT F c.tail hC he rfl ?_))
 wp_walk
 have hget:((h.push { cls:=.type "tuple",data:=.seq rest.toArray }).update e (Obj.mapFields fun x=>x.setIfInBounds 0 (Value.ref h.objs.size))).get? e=some (xob C none (.ref h.objs.size) .none):=Heap.get?_update_self (Obj.mapFields fun x=>x.setIfInBounds 0 (Value.ref h.objs.size)) (uE _ he) rfl
 have fin:=hq _ (.ref h.objs.size) hget fun b o hb ho=>by
  rw [Heap.get?_update_other _ _ (Ne.symm hb)]
  exact uE _ ho
 have key:∀ {Q':Unit→Shared→Prop} {E':Value→Shared→Prop} {s':Shared},Q' () s'→wpAny (model prog w) A.in1 (match #[a0,Value.none,Value.none,Value.none,Value.bool false,Value.none][0] with | Value.ref a=>letGo [#[a0,Value.none,Value.none,Value.none,Value.bool false,Value.none][0]] | x=>pure ()) Q' E' s':=fun {Q' E' s'} q=>by
  show wpAny _ _ (match a0 with | Value.ref a=>letGo [a0] | x=>pure ()) _ _ _
  cases a0<;>first | exact wpAny_letGo q | exact wpAny_pure q
 refine key ?_
 wp_walk
 exact fin
end
section
variable {prog:Program} {w:World} {A:Around} {E:Value→Shared→Prop} {h:Heap} {g:Array GenState} {d:Drawn} {t:Nat} {os:OsState} {C N R NR:Addr} {mN mR:Str→Option Value}
open Builtin Builtin.ObjectAttr in
theorem sw {e:Addr} {name:Str} {a v:Value} {Q:Unit→Shared→Prop} {sa owner:String} (SF:StoreFacts "ValueError" bmV sa owner) (c:C2 h C N R NR mN mR) (n1:mN "__setattr__"=none) (n2:mR "__setattr__"=none) (n3:mN name=none) (n4:mR name=none)
  (hB:typeLookup (.type "ValueError") name=pure none) (he:h.get? e=some (xob C none a .none))
  (hq:∀ h' tk' dx,h.objs.size≤dx→h'.get? e=some (xob C (some dx) a .none)→h'.Ns1 dx (fun y=>if y=name then some v else none)→(∀ b o,b≠e→h.get? b=some o→h'.get? b=some o)→Q () ⟨h',g,d,tk',os⟩) :
  wpAny (model prog w) A (setAttr (.ref e) name v) Q E ⟨h,g,d,t,os⟩:=by
 obtain ⟨nm,q,bs,sn,sub,ab,col,dd,k0,k1,k2,k3,k5,hC⟩:=c.hC
 have f3:=SF.slot.bind (.ref e)
 have hpass:=SF.passes (.ref e)
 have ha:∀ tk,argsOk sa ⟨[.ref e,.str name tk,v],[]⟩:=fun tk=>SF.args (.ref e) (.str name tk) v
 have hcB:(Value.ref C :: (Value.ref R :: bmV)).contains (.type owner)=true:=by rw [List.contains_cons,List.contains_cons,SF.hasOwner,Bool.or_true,Bool.or_true]
 have lk:∀ {M:Model} {A':Around} {E':Value→Shared→Prop} {tk:Nat} {Q':Option Value→Shared→Prop} {nme:Str} {y:Option Value},mN nme=none→mR nme=none→typeLookup (.type "ValueError") nme=pure y→Q' y ⟨h,g,d,tk,os⟩→wpAny M A' (typeLookup (.ref C) nme) Q' E' ⟨h,g,d,tk,os⟩:=fun a1 a2 a3 q'=>sD c a3 (by rw [a1,a2];exact q')
 unfold setAttr callSpecial? specialOf
 repeat (any_goals (first | assumption | (with_reducible refine wpAny_loadPart_at he ?_) | (with_reducible refine lk n1 n2 SF.slot.lookup ?_) | wp_step))
 refine codeAny_call_builtin SF.slot.plain SF.entry ?_
 simp only [checkBuiltinCall,SF.kind,SF.split]
 show wpAny _ _ _ _ _ _
 refine wpAny_bind ?_
 unfold isInstance
 repeat (first | (with_reducible refine wpAny_loadPart_at he ?_) | (with_reducible refine wpAny_isSubtype_exc hC ?_;rw [hcB]) | wp_step)
 have body:∀ {Q':Fin→Shared→Prop} {E':Value→Shared→Prop} {tk:Nat} {A':Around},(∀ h' tk' dx,h.objs.size≤dx→h'.get? e=some (xob C (some dx) a .none)→h'.Ns1 dx (fun y=>if y=name then some v else none)→(∀ b o,b≠e→h.get? b=some o→h'.get? b=some o)→Q' (.done (.ret .none)) ⟨h',g,d,tk',os⟩) →
   wpAny (model prog w) A' (Builtin.«object.__setattr__» ⟨[.ref e,.str name t,v],[]⟩) Q' E' ⟨h,g,d,tk,os⟩:=fun {Q' E' tk A'} hq=>by
  have hxs:e≠h.objs.size:=Nat.ne_of_lt (Heap.lt_size he)
  have fin:∀ h' tk',h'.get? e=some (xob C (some h.objs.size) a .none)→h'.Ns1 h.objs.size (fun y=>if y=name then some v else none)→(∀ b o,b≠e→h.get? b=some o→h'.get? b=some o)→Q' (.done (.ret .none)) ⟨h',g,d,tk',os⟩:=fun h' tk' a1 a2 a3=>hq h' tk' _ (Nat.le_refl _) a1 a2 a3
  clear hq
  generalize hO:xob C none a .none=o at he
  have hc:o.cls=.ref C:=by rw [← hO]
  have hdn:o.dict=none:=by rw [← hO]
  have hnc:∀ c,o.data≠.cls c:=fun c z=>by rw [← hO] at z;cases z
  have hOd:({ cls:=o.cls,dict:=some h.objs.size,data:=o.data,slots:=o.slots }:Obj)=xob C (some h.objs.size) a .none:=by rw [← hO]
  unfold Builtin.«object.__setattr__»
  repeat (first | rw [refuse_eq] | (rw [refuseLoop_ref,refuseLoop_ref,hpass]) | (with_reducible refine wpAny_loadPart_at he ?_;rw [hc]) | with_reducible refine wpAny_mroOf_exc hC ?_ | (with_reducible refine lk n3 n4 hB ?_) | wp_step)
  rw [hdn,if_neg (by simp [typeHasDict])]
  split
  ·rename_i hcd
   cases hcd
  split
  ·rename_i c hcd
   exact absurd hcd (hnc c)
  have hx₁:(h.push { cls:=.type "dict",data:=.dict #[] }).get? e=some o:=uE _ he
  refine wpAny_bind (wpAny_alloc' ?_)
  refine wpAny_bind (wpAny_update' hx₁ ?_)
  refine wpAny_pure ?_
  have hgd:((h.push { cls:=.type "dict",data:=.dict #[] }).update e fun o=>{ cls:=o.cls,dict:=some h.objs.size,data:=o.data,slots:=o.slots }).get? h.objs.size=some { cls:=.type "dict",data:=.dict #[] } :=
   (Heap.get?_update_ne _ _ _ _ hxs.symm).trans (Heap.get?_push_at rfl rfl)
  have hnd:((h.push { cls:=.type "dict",data:=.dict #[] }).update e fun o=>{ cls:=o.cls,dict:=some h.objs.size,data:=o.data,slots:=o.slots }).Ns h.objs.size (fun _=>none) :=
   ⟨_,#[],_,hgd,rfl,fun e he=>absurd he (by simp),fun _=>rfl⟩
  show wpAny _ _ (storeInDict h.objs.size (.str name t) name v) _ _ _
  unfold storeInDict newKeyGuard
  refine wpAny_bind (wpAny_pure (wpAny_bind (wpAny_nsSet1 (Heap.Ns1.of_empty hnd) fun h' hn' hs=>?_)))
  obtain ⟨oD,esD,epD,hoD,hdD,hcD⟩:=hn'.count (Within.cons name v Within.nil)
  refine wpAny_bind (wpAny_lookBehind hoD (by rw [hdD];exact pastItsLine_dict (uD hcD (by rw [uM,List.length_nil,sizeLine_eq];omega))) ?_)
  wp_walk
  refine fin h' _ ?_ hn' fun b ob hbx hb=>?_
  ·rw [← hOd]
   refine (hs.2 e hxs).trans (Heap.get?_update_self _ hx₁ ?_)
   rw [← hO];rfl
  ·exact (hs.2 b (Nat.ne_of_lt (Heap.lt_size hb))).trans ((Heap.get?_update_ne _ _ _ _ hbx).trans (uE _ hb))
 have hch:∀ {Q':Unit→Shared→Prop} {E':Value→Shared→Prop} {s':Shared} {A':Around},Q' () s'→wpAny (model prog w) A' (match Manifest.signature? sa with | some sig=>Bind.checkArgs sa sig ⟨[.ref e,.str name t,v],[]⟩ | _=>pure ()) Q' E' s':=fun {Q' E' s' A'} q'=>by
  have ha:=ha t
  cases hsig:Manifest.signature? sa with
  | none=>exact wpAny_pure q'
  | some sig =>
   simp only [argsOk,hsig] at ha
   have h2:Bind.checkArgs sa sig ⟨[.ref e,.str name t,v],[]⟩=pure ():=ha
   show wpAny _ _ (Bind.checkArgs sa sig ⟨[.ref e,.str name t,v],[]⟩) _ _ _
   rw [h2];exact wpAny_pure q'
 refine hch (body fun h' tk' dx a0 a1 a2 a3=>?_)
 exact wpAny_pure (wpAny_pure (hq h' tk' dx a0 a1 a2 a3))
end
def XRaw (e C:Addr):HO:=.ext fun h=>∃ a,h.get? e=some (xob C none a .none)
structure EK (K:PySem.W.Frag) (C R:Addr) (fld:Str):Prop where
 ex:∃ N NR mN mR,(∀ h,K.In h→C2 h C N R NR mN mR)∧mN "__setattr__"=none∧mR "__setattr__"=none∧mN fld=none∧mR fld=none
 fb:typeLookup (.type "ValueError") fld=pure none
structure RK (K:PySem.W.Frag) (R:Addr):Prop where
 sp:PySem.W.specialIn K (.ref R) "__getattribute__"=some (some (.builtin "type.__getattribute__"))
 rd:∃ mc,PySem.W.readsIn K R mc=true∧PySem.W.findCls K (.ref R) mc "__init__"=some (.val (.builtin "ValueError.__init__"))
section
variable {X:Cx} {pins:List (Addr×Obj)} {σ:L2.St} {H:Hp} {s:Shared} {C R e:Addr} {fld:Str}
theorem sH {o:HO} (h:H e=some o):upd H e o=H:=funext fun b=>by
 by_cases z:b=e
 ·rw [z,ak,h]
 ·rw [ap z]
theorem lg (I:L2.Inv X pins σ H s) (h:H e=some (XRaw e C)):∃ a,s.heap.get? e=some (xob C none a .none):=(I.hok e _ h).1
theorem lm {P:Program} {w:World} {H:Hp} {h':Heap} {a:Value} (g:h'.get? e=some (xob C none a .none)):bq P w H h' e (XRaw e C) :=
 ⟨⟨a,g⟩,⟨_,g⟩,fun h1 h2 p k=>by obtain ⟨a,p⟩:=p;exact⟨a,k _ p⟩⟩
theorem oZ {P:Program} {w:World} {H:Hp} {h':Heap} {a:Value} {dx:Addr} (g:h'.get? e=some (xob C (some dx) a .none)):bq P w H h' e (XNew e C dx) :=
 ⟨⟨a,g⟩,⟨_,g⟩,fun h1 h2 p k=>by obtain ⟨a,p⟩:=p;exact⟨a,k _ p⟩⟩
def qG (C:Addr) (t:TA):TE:=fun σ H Q=>t σ H fun vs H1=>∃ e y,vs=[.ref e,y]∧H1 e=some (XRaw e C)∧Q .non H1
theorem iF {xR:Str} {pR apos pos:Pos} {a1 a2:Expr} {t:TA} {pl:Sem Bool} (rk:RK X.K R) (ek:EK X.K C R fld) (hg:Gl X xR) (hm:X.mg xR=some (.ref R)) (ha:PA X [a1,a2] t) (hdb:(xR == ("__debug__":Str))=false:=by decide)
    (hst:starEach [a1,a2] X.env=(false,eval a1 X.env) :: starEach [a2] X.env:=by rfl) (hpl:(backTo pos (starEach [a2] X.env)).any (·.1)=false:=by rfl)
    (ht:eval (.Call (.Attribute (.Name xR pR) "__init__" apos) [a1,a2] [] pos) X.env=(do
      let ov←eval (.Name xR pR) X.env
      standAt apos.atName
      let (f,first)←holding [ov] (getMethod ov "__init__" pl)
      callWith pos f first (backTo pos (starEach [a1,a2] X.env)) (backToKw pos (keywordEach [] X.env))):=by rfl) :
    PE X (.Call (.Attribute (.Name xR pR) "__init__" apos) [a1,a2] [] pos) (qG C t):=by
  intro pins s σ H Q I h
  obtain ⟨mc,hrd,hfc⟩:=rk.rd
  refine PySem.W.methodCall_KW (pl:=pl) (eL I hg hm ?_ hdb) ht
  refine PySem.W.method_cls I.kIn rk.sp (PySem.W.cls_value I.kIn hrd hfc (by rfl) ?_)
  have I1:=I.tok (s.toks + 1)
  have hA:=ha pos pins _ σ H _ I1 h
  rw [hst] at hA
  show wpAny _ _ (callWith pos (.builtin "ValueError.__init__") [] (backTo pos (starEach [a1,a2] X.env)) (backToKw pos (keywordEach [] X.env))) _ _ _
  rw [hst]
  refine Calls.callWith_builtin (by show (false || (backTo pos (starEach [a2] X.env)).any (·.1))=false;rw [hpl]<;>rfl) (Calls.evalArgs_plain ?_)
  refine thn hA fun us s2 hs2=>?_
  obtain ⟨vs,H2,I2,r2,e,y,rfl,hX,q2⟩:=hs2
  cases r2 with
  | cons r0 r2 =>
    cases r2 with
    | cons r1 r2 =>
      cases r2
      cases r0
      obtain ⟨N,NR,mN,mR,c2,_⟩:=ek.ex
      obtain ⟨a,he⟩:=lg I2 hX
      obtain ⟨hh,g,d,tk,os⟩:=s2
      refine tP (c2 _ I2.kIn) he (fun h' a' g1 g2=>?_) (by show 1≤sizeLine;decide)
      have I3:=I2.write (t':=tk) (x:=e) (e:=e) (o:=XRaw e C) (h':=h') (by rw [hX];trivial) (.inl rfl) g2 ⟨_,g1⟩ (lm g1)
      rw [sH hX] at I3
      exact⟨.non,H2,I3,rfl,q2⟩
end
end DL
namespace DL
open PySem PySem.Spec PyProof.Rows L2
structure Lft (fs:List Addr) (h h':Heap) (e:Addr) (t:Value) (C:Addr) (dx:Option Addr) (a:Value) (T:Addr):Prop where
 ex:h'.get? e=some (xob C dx a (.ref T))
 tb:TbOk h' e (.ref T)
 new:h.objs.size≤T
 keep:∀ b o,h.get? b=some o→b≠e→t≠.ref b→b∉fs→h'.get? b=some o
 slot:∀ b o,h.get? b=some o→b≠e→t≠.ref b→∃ sl,h'.get? b=some { o with slots:=sl }
 there:∀ b o,h.get? b=some o→∃ o',h'.get? b=some o'
section
variable {M:Model} {A:Around} {E:Value→Shared→Prop} {s:Shared} {base:Heap} {env:Env} {outer:List Env} {L e C:Addr} {dx:Option Addr} {a t:Value} {Q:Unit→Shared→Prop}
theorem entry {head:Value} {had:Bool} (hfr:A.frames=some (env :: outer)) (hl:s.heap.FunFrames base (env :: outer)) (hf:env.frame=some L) (he:s.heap.get? e=some (xob C dx a t))
  (h:∀ h' T,h'.get? e=some (xob C dx a (.ref T))→TbOk h' e (.ref T)→s.heap.objs.size≤T→(∀ b o,s.heap.get? b=some o→b≠e→b∉frs (env :: outer)→h'.get? b=some o)→(∀ b o,s.heap.get? b=some o→b≠e→∃ sl,h'.get? b=some { o with slots:=sl })→Q () { s with heap:=h' }) :
  wpAny M A (do let a←frameOf env;let pl←entryPlaceOf L had;let b←EntryCells.newEntry head a .none (rawInt L) .none pl;setField (.ref e) 1 b) (fun _ s'=>wpAny M A (setFlight (.ref e) none) Q E s') E s:=by
 have hene:e∉(env :: outer).filterMap (·.frame):=fun hm=>by
  obtain ⟨_,o,ho,hnf⟩:=hl.mem hm
  rw [he] at ho;injection ho with ho;subst ho;exact hnf _ rfl
 refine wpAny_bind (wpAny_frameOf_fun hfr hl hf fun h₁ hs₁=>?_)
 refine wpAny_bind (wpAny_entryPlaceOf fun pl hpl=>?_)
 unfold EntryCells.newEntry newFields
 refine wpAny_bind (wpAny_newObj_type ?_ (hpl.sizeOk5 _ _ _ _ _))
 have he₁:h₁.get? e=some (xob C dx a t):=(hs₁.2.1 e hene).trans he
 generalize hO:({ cls:=.type "traceback",dict:=none,data:=.fields ([head,.ref L,.none,rawInt L,.none]++(if pl.isEmpty then List.replicate 6 Value.none else pl)).toArray }:Obj)=O
 have hOd:O.data=.fields ([head,.ref L,.none,rawInt L,.none]++(if pl.isEmpty then List.replicate 6 Value.none else pl)).toArray:=by rw [← hO]
 have hOf:O.isFreed=false:=by rw [← hO];rfl
 have he₂:=uE (h:=h₁) O he₁
 refine wpAny_setField he₂ rfl (by simp) ?_
 have hTe:h₁.objs.size≠e:=Nat.ne_of_gt (Heap.lt_size he₁)
 have he₃:((h₁.push O).update e (Obj.mapFields (·.setIfInBounds 1 (Value.ref h₁.objs.size)))).get? e=some (xob C dx a (.ref h₁.objs.size)):=Heap.get?_update_self (Obj.mapFields (·.setIfInBounds 1 (Value.ref h₁.objs.size))) he₂ rfl
 have hT₃:((h₁.push O).update e (Obj.mapFields (·.setIfInBounds 1 (Value.ref h₁.objs.size)))).get? h₁.objs.size=some O:=(Heap.get?_update_other _ _ (Ne.symm hTe)).trans (uW h₁ hOf)
 unfold setFlight
 refine wpAny_bind (wpAny_field he₃ rfl (x:=.ref h₁.objs.size) rfl ?_)
 rw [if_pos (show (Value.ref h₁.objs.size != Value.none)=true from by simp)]
 have hsz:3 < ([head,.ref L,.none,rawInt L,.none]++(if pl.isEmpty then List.replicate 6 Value.none else pl)).toArray.size:=by simp only [uT,uK,uM,List.length_nil]<;>omega
 have hne:∀ b o,h₁.get? b=some o→h₁.objs.size≠b:=fun b o hb=>Nat.ne_of_gt (Heap.lt_size hb)
 have keep:∀ b o,b≠e→h₁.get? b=some o→(((h₁.push O).update e (Obj.mapFields (·.setIfInBounds 1 (Value.ref h₁.objs.size)))).update h₁.objs.size (Obj.mapFields (·.setIfInBounds 3 ((none:Option Addr).elim Value.none fun f=>rawInt f)))).get? b=some o:=fun b o hbe hb=>by
  rw [Heap.get?_update_other _ _ (hne b o hb),Heap.get?_update_other _ _ (Ne.symm hbe)]
  exact uE _ hb
 refine wpAny_setField hT₃ hOd hsz (h _ h₁.objs.size ?_ ?_ ?_ (fun b o hb hbe hbf=>keep b o hbe ((hs₁.2.1 b hbf).trans hb)) fun b o hb hbe=>?_)
 ·rw [Heap.get?_update_other _ _ hTe];exact he₃
 ·exact .inr ⟨_,_,_,rfl,hTe,Heap.get?_update_self _ hT₃ (Obj.isFreed_of_fields (Obj.data_mapFields hOd _)),Obj.data_mapFields hOd _,by simp [hsz]⟩
 ·rw [hs₁.1];exact Nat.le_refl _
 ·obtain ⟨sl,hs⟩:=hs₁.2.2 b o hb
  exact⟨sl,keep b _ hbe hs⟩
theorem note (hfr:A.frames=some (env :: outer)) (hl:s.heap.FunFrames base (env :: outer)) (hf:env.frame=some L) (he:s.heap.get? e=some (xob C dx a t)) (ht:TbOk s.heap e t)
  (h:∀ h' T,Lft (frs (env :: outer)) s.heap h' e t C dx a T→Q () { s with heap:=h' }) :
  wpAny M A (noteFrame (.ref e) env) (fun _ s'=>wpAny M A (setFlight (.ref e) none) Q E s') E s:=by
 unfold noteFrame
 simp only [hf]
 refine wpAny_bind (wpAny_field he rfl (x:=t) rfl ?_)
 rcases ht with rfl | ⟨T,oT,ts,rfl,hTe,hT,hdT,h3⟩
 ·rw [if_neg (by decide)]
  refine entry hfr hl hf he fun h' T h1 h2 h3 h4 h5=>h h' T ⟨h1,h2,h3,fun b o hb hbe _=>h4 b o hb hbe,fun b o hb hbe _=>h5 b o hb hbe,fun b o hb=>?_⟩
  by_cases z:b=e
  ·exact⟨_,by rw [z];exact h1⟩
  ·obtain ⟨sl,q⟩:=h5 b o hb z;exact⟨_,q⟩
 ·rw [if_pos (show (Value.ref T != Value.none)=true from by simp)]
  refine wpAny_bind (wpAny_field hT hdT h3 ?_)
  rw [if_neg (show ¬ ((Value.none == rawInt L)=true) from by simp [rawInt])]
  refine wpAny_bind (wpAny_setField hT hdT (Array.getElem?_eq_some_iff.mp h3).1 ?_)
  have other:∀ b,b≠T→(s.heap.update T (Obj.mapFields (·.setIfInBounds 3 Value.none))).get? b=s.heap.get? b:=fun b hb=>Heap.get?_update_other _ _ (Ne.symm hb)
  have noRecord:∀ b o,s.heap.get? b=some o→(∀ vs,o.data≠.fields vs)→b≠T:=fun b o hb hnf q=>by
   rw [q,hT] at hb;injection hb with hb;subst hb;exact hnf ts hdT
  have hT2:=Heap.get?_update_self (Obj.mapFields (·.setIfInBounds 3 Value.none)) hT (Obj.isFreed_of_fields (Obj.data_mapFields hdT _))
  refine entry (s:={ s with heap:=s.heap.update T (Obj.mapFields (·.setIfInBounds 3 Value.none)) }) hfr (hl.of_keeps fun b o hb hnf=>⟨o,(other b (noRecord b o hb hnf)).trans hb,rfl⟩) hf ((other e (Ne.symm hTe)).trans he)
   fun h' T' h1 h2 h3 h4 h5=>h h' T' ⟨h1,h2,by rw [← Heap.size_after_update];exact h3,fun b o hb hbe hbt=>h4 b o ((other b fun z=>hbt (by rw [z])).trans hb) hbe,fun b o hb hbe hbt=>h5 b o ((other b fun z=>hbt (by rw [z])).trans hb) hbe,fun b o hb=>?_⟩
  by_cases z:b=e
  ·exact⟨_,by rw [z];exact h1⟩
  ·by_cases z2:b=T
   ·subst z2
    obtain ⟨sl,q⟩:=h5 b _ hT2 z;exact⟨_,q⟩
   ·obtain ⟨sl,q⟩:=h5 b o ((other b z2).trans hb) z;exact⟨_,q⟩
theorem tO (hfr:A.frames=some (env :: outer)) (hl:s.heap.FunFrames base (env :: outer)) (hf:env.frame=some L) (he:s.heap.get? e=some (xob C dx a t)) (ht:TbOk s.heap e t)
  (h:∀ h' T,Lft (frs (env :: outer)) s.heap h' e t C dx a T→Q () { s with heap:=h' }):wpAny M A (leaving env (.ref e)) Q E s:=by
 unfold leaving
 exact wpAny_bind (note hfr hl hf he ht h)
end
inductive CXE (P:Program) (w:World) (outer:List Env) (H:Hp) (s:Shared) (E:XK) (v:Value) (s':Shared):Prop
 | mk (e C dx:Addr) (a t:Value) (H':Hp) (hv:v=.ref e) (os:s'.os=s.os) (bare:AllBare s'.gens) (un:Un (frs outer) [] H H' s.heap s'.heap) (hok:HOk P w H' s'.heap)
  (he:s'.heap.get? e=some (xob C (some dx) a t)) (ht:TbOk s'.heap e t) (hT:∀ T,t=.ref T→H' T=none∧s.heap.objs.size≤T) (hX:H' e=some (XAt e C dx)) (hE:E (.ref e) (some dx) H')
section
variable {P:Program} {w:World} {K:PySem.W.Frag} {mg:Str→Option Value} {base:Heap} {N:List Str} {qual:Str} {scope:Scope} {f:Addr} {cd:Value} {A:Around} {outer:List Env} {s:Shared} {H:Hp} {E:XK}
theorem Lft.hok {fs:List Addr} {h h':Heap} {e C dx T:Addr} {a t:Value} {H':Hp} (l:Lft fs h h' e t C (some dx) a T) (hok:HOk P w H' h) (hX:H' e=some (XAt e C dx)) (hT:∀ T,t=.ref T→H' T=none) (hfs:∀ b∈fs,H' b=none):HOk P w H' h':=fun b o q=>by
 have kp:∀ c u v,H' c=some v→c≠e→h.get? c=some u→h'.get? c=some u:=fun c u v hc hce hu=>l.keep c u hu hce (fun z=>by rw [hT c z] at hc;cases hc) fun z=>by rw [hfs c z] at hc;cases hc
 by_cases hb:b=e
 ·subst hb
  rw [hX] at q
  cases q
  refine⟨⟨_,_,l.ex⟩,⟨_,l.ex⟩,fun h1 h2 p k=>?_⟩
  obtain ⟨a,t,p⟩:=p
  exact⟨a,t,k _ p⟩
 ·refine (hok b o q).stay (fun c u hc hu=>?_) (fun _ r=>r) fun _ _ r=>r
  rcases hc with rfl | hc
  ·exact kp _ _ _ q hb hu
  ·exact kp _ _ _ hc (fun z=>by rw [z,hX] at hc;cases hc) hu
end
end DL
namespace DL
open PySem PySem.Spec PyProof.Rows L2
section
variable {X:Cx} {pins:List (Addr×Obj)} {σ:L2.St} {H:Hp} {s:Shared} {C R e:Addr} {fld:Str}
theorem mi {f:Str} {y:V} {u:Value} (r:RelV y u) (f':Str):RelO (([(f,y)]:List (Str×V)).lookup f') (if f'=f then some u else none):=by
 by_cases z:f'=f
 ·subst z
  rw [if_pos rfl]
  simp only [List.lookup,beq_self_eq_true]
  exact r
 ·rw [if_neg z]
  have:(f' == f)=false:=beq_eq_false_iff_ne.mpr z
  simp only [List.lookup,this]
  exact True.intro
theorem Inv.xput {h':Heap} {dx:Addr} {a u:Value} {y:V} {t':Nat} (I:L2.Inv X pins σ H s) (hX:H e=some (XRaw e C)) (hdx:s.heap.objs.size≤dx) (r:RelV y u) (g1:h'.get? e=some (xob C (some dx) a .none)) (g2:h'.Ns1 dx (fun z=>if z=fld then some u else none))
  (g3:∀ b o,b≠e→s.heap.get? b=some o→h'.get? b=some o):L2.Inv X pins σ (upd (upd H dx (.xd [(fld,y)])) e (XNew e C dx)) { s with heap:=h',toks:=t' }:=by
 have hn:H dx=none:=I.hok.fresh hdx
 have hne:dx≠e:=fun z=>by rw [z,hX] at hn;cases hn
 have at':∀ b,b≠e→b≠dx→upd (upd H dx (.xd [(fld,y)])) e (XNew e C dx) b=H b:=fun b z1 z2=>by rw [ap z1,ap z2]
 have ndx:∀ b o,s.heap.get? b=some o→b≠dx:=fun b o hb z=>by
  have:=Heap.lt_size hb
  rw [z] at this
  exact absurd (Nat.lt_of_lt_of_le this hdx) (Nat.lt_irrefl _)
 have nH:∀ b v,H b=some v→b≠dx:=fun b v hb z=>by rw [z,hn] at hb;cases hb
 have nX:∀ b v,H b=some v→v≠XRaw e C→b≠e:=fun b v hb hv z=>by rw [z,hX] at hb;exact hv (Option.some.inj hb).symm
 refine I.un ⟨fun b o hb hu _ _=>g3 b o (fun z=>by rw [z,hX] at hu;cases hu) hb,fun b o hb hu _ _=>⟨o.slots,g3 b o (fun z=>by rw [z,hX] at hu;cases hu) hb⟩,fun b o hb hu _=>?_,fun b o hb _=>?_,fun b xs hb=>?_,fun b o u hb=>?_,fun b ps hb=>⟨#[],?_⟩⟩ fun b o q=>?_
 ·rw [at' b (fun z=>by rw [z,hX] at hu;cases hu) (ndx b o hb)];exact hu
 ·by_cases z:b=e
  ·exact⟨_,by rw [z];exact g1⟩
  ·exact⟨o,g3 b o z hb⟩
 ·rw [at' b (nX b _ hb (by unfold XRaw;exact fun z=>nomatch z)) (nH b _ hb)];exact hb
 ·rw [at' b (nX b _ hb (by unfold XRaw;exact fun z=>nomatch z)) (nH b _ hb)];exact hb
 ·rw [at' b (nX b _ hb (by unfold XRaw;exact fun z=>nomatch z)) (nH b _ hb),hb,Array.append_empty]
 ·by_cases z:b=e
  ·subst z
   rw [ak] at q
   cases q
   exact oZ g1
  ·by_cases z2:b=dx
   ·subst z2
    rw [ap z,ak] at q
    cases q
    exact⟨_,g2,mi r⟩
   ·rw [at' b z z2] at q
    refine (I.hok b o q).stay (fun c v hc hv=>?_) (fun c hc=>?_) fun c xs hc=>?_
    ·refine g3 c v ?_ hv
     rcases hc with rfl | hc
     ·exact z
     ·exact nX c _ hc (by unfold XRaw;exact fun z=>nomatch z)
    ·rw [at' c (nX c _ hc (by unfold XRaw;exact fun z=>nomatch z)) (nH c _ hc)];exact hc
    ·rw [at' c (nX c _ hc (by unfold XRaw;exact fun z=>nomatch z)) (nH c _ hc)];exact hc
def qq (C:Addr) (f:Str) (ta tv:TE):TS:=fun D σ H=>tv σ H fun y H1=>ta σ H1 fun x H2=>∃ e,x=.ref e∧H2 e=some (XRaw e C)∧∀ dx,H2 dx=none→dx≠e→D.nx σ (upd (upd H2 dx (.xd [(f,y)])) e (XNew e C dx))
theorem iS {o value:Expr} {pos' pos:Pos} {ta tv:TE} (ek:EK X.K C R fld) (ha:PE X o ta) (hv:PE X value tv) (hs:swapsWith value (some (.Attribute o fld pos')) pos.line X.env=pure false:=by rfl):PS X (.Assign [.Attribute o fld pos'] value pos) (qq C fld ta tv):=by
 intro pins s σ H D I h
 refine plainObj_wpAny_Assign_Attribute (thn (hv pins s σ H _ I h) fun u s1 hs1=>?_) hs
 obtain ⟨y,H1,I1,ry,q⟩:=hs1
 refine thn (ha pins s1 σ H1 _ I1 q) fun ov s2 hs2=>?_
 obtain ⟨x,H2,I2,rx,e,rfl,hX,q2⟩:=hs2
 cases rx
 obtain ⟨N,NR,mN,mR,c2,n1,n2,n3,n4⟩:=ek.ex
 obtain ⟨a,he⟩:=lg I2 hX
 obtain ⟨hh,g,d,tk,os⟩:=s2
 refine sw PySem.F.store_ValueError (c2 _ I2.kIn) n1 n2 n3 n4 ek.fb he fun h' tk' dx hdx g1 g2 g3=>?_
 have hn:H2 dx=none:=I2.hok.fresh hdx
 exact⟨σ,_,Inv.xput (t':=tk') I2 hX hdx ry g1 g2 g3,q2 dx hn fun z=>by rw [z,hX] at hn;cases hn⟩
end
structure EM (K:PySem.W.Frag) (C R fI:Addr):Prop where
 ex:∃ N NR mN mR,(∀ h,K.In h→C2 h C N R NR mN mR)∧mN "__init__"=some (.ref fI)
 kp:PySem.W.keepIn K (.ref C)=true
 fn:∃ o,K.lookup fI=some o∧o.cls=.type "function"
def pyB:Bool→V→Prop
 | false,_=>True
 | true,v=>∃ x,v=.str x∧x.length≤100
def spI (C:Addr) (fld:Str) (b:Bool):Sp:=fun vs H Q _=>∃ e y,vs=[.ref e,y]∧pyB b y∧H e=some (XRaw e C)∧∀ dx,H dx=none→dx≠e→Q .non (upd (upd H dx (.xd [(fld,y)])) e (XNew e C dx))
theorem upd3 {H:Hp} {e dx:Addr} {a b c:HO}:upd (upd (upd H e a) dx b) e c=upd (upd H dx b) e c:=funext fun z=>by
 by_cases h:z=e
 ·rw [h,ak,ak]
 ·rw [ap h,ap h]
  by_cases h2:z=dx
  ·rw [h2,ak,ak]
  ·rw [ap h2,ap h2,ap h]
section
variable {X:Cx} {pins:List (Addr×Obj)} {σ:L2.St} {H:Hp} {s:Shared} {C R fI:Addr} {fld:Str} {k:Nat} {fd:FuncData} {ps:List Str} {Q:VK} {b:Bool}
theorem l5 {y:V} {u:Value} (em:EM X.K C R fI) (F:FnOk X.prog X.w X.K X.mg X.base CX0 k fI fd ps (spI C fld b)) (hr:Room (k + 1) X.A) (hb:c8 X.K fd ps []) (I:L2.Inv X pins σ H s) (r:RelV y u) (hy:pyB b y)
  (h:∀ e dx,H e=none→H dx=none→dx≠e→Q (.ref e) (upd (upd H dx (.xd [(fld,y)])) e (XNew e C dx))):wpAny (model X.prog X.w) X.A (call (.ref C) [u]) (EP X pins σ Q) X.xe s:=by
 obtain ⟨N,NR,mN,mR,c2,hi⟩:=em.ex
 obtain ⟨o,lk,hc⟩:=em.fn
 obtain ⟨hh,g,d,tk,os⟩:=s
 refine tY (c2 _ I.kIn) hi (I.kIn _ _ lk) hc (fun h' e hs M=>?_) (by show 1≤sizeLine;decide)
 obtain ⟨t,he,_⟩:=M.there
 have I2:=I.laid (t':=tk) (a:=e) (o:=XRaw e C) M.keeps hs (lm he)
 have hn:H e=none:=I.hok.fresh hs
 have sp:spI C fld b [.ref e,y] (upd H e (XRaw e C)) (fun v H2=>v=.non∧Q (.ref e) H2) E0:=⟨e,y,rfl,hy,ak,fun dx hdx hne=>⟨rfl,by
  rw [upd3]
  exact h e dx hn (by rw [ap hne] at hdx;exact hdx) hne⟩⟩
 have r2:Vals [V.ref e,y] [Value.ref e,u]:=.cons rfl (.cons r .nil)
 have hl:([Value.ref e,u]++[]).length=ps.length:=by
  have:=F.len _ _ _ _ sp
  exact this
 refine wpAny_call (codeAny_mono (F.run _ X.stack _ _ ⟨[Value.ref e,u],[]⟩ [Value.ref e,u] [V.ref e,y] _ E0 (hr.make C [u] []) (I2.env0.make C [u] []) (hb _ [Value.ref e,u] I2.kIn hl) r2 sp) fun r s' hq'=>?_)
 cases r with
 | error e=>exact False.elim hq'
 | ok fl =>
  cases fl with
  | ret u' =>
   obtain ⟨v,H',I3,rv,ev,q3⟩:=I2.after hq'
   subst ev
   exact⟨rv,⟨V.ref e,H',I3,rfl,q3⟩⟩
  | next=>exact False.elim hq'
  | brk=>exact False.elim hq'
  | cont=>exact False.elim hq'
def nu (C:Addr) (fld:Str) (b:Bool) (t:TA):TE:=fun σ H Q=>t σ H fun vs H1=>∃ y,vs=[y]∧pyB b y∧∀ e dx,H1 e=none→H1 dx=none→dx≠e→Q (.ref e) (upd (upd H1 dx (.xd [(fld,y)])) e (XNew e C dx))
theorem mj {x:Str} {p pos:Pos} {a:Expr} {t:TA} (em:EM X.K C R fI) (F:FnOk X.prog X.w X.K X.mg X.base CX0 k fI fd ps (spI C fld b)) (hr:Room (k + 1) X.A) (hg:Gl X x) (hm:X.mg x=some (.ref C)) (hb:c8 X.K fd ps []) (ha:PA X [a] t)
  (hdb:(x == ("__debug__":Str))=false:=by decide) (he:starEach [a] X.env=(false,eval a X.env) :: starEach [] X.env:=by rfl) (hpl:(backTo pos (starEach [] X.env)).any (·.1)=false:=by rfl) :
  PE X (.Call (.Name x p) [a] [] pos) (nu C fld b t):=by
 intro pins s σ H Q I h
 refine wpAny_Call_Name_kw (eL I hg hm ?_ hdb)
 refine PySem.W.callWith_K (h₀:=X.base) I.ok.mod.kin em.kp (thn (ha pos pins s σ H _ I h) fun us s1 hs1=>?_) he hpl
 obtain ⟨vs,H1,I1,r,y,rfl,hy,q⟩:=hs1
 refine⟨I1.kIn,?_⟩
 cases r with
 | cons r0 r =>
  cases r
  exact l5 em F hr hb I1 r0 hy q
end
theorem sE {M:Model} {A:Around} {E:Value→Shared→Prop} {s:Shared} {env:Env} {x:Sem Value} {Q:Flow→Shared→Prop} {C N R NR:Addr} {mN mR:Str→Option Value} (hh:A.handled=none)
  (h:wpAny M A x (fun v s₁=>∃ e dx a,v=.ref e∧C2 s₁.heap C N R NR mN mR∧s₁.heap.get? e=some (xob C dx a .none)∧E (.ref e) s₁) E s):wpAny M A (raiseStmt env (some x) none) Q E s:=by
 unfold raiseStmt
 refine wpAny_bind (wpAny_mono h (fun v s₁ h₁=>?_) fun _ _ x=>x)
 obtain ⟨e,dx,a,rfl,c,he,hE⟩:=h₁
 obtain ⟨nm,q,bs,sn,sub,ab,col,dd,k0,k1,k2,k3,k5,hC⟩:=c.hC
 have hcB:(Value.ref C :: (Value.ref R :: bmV)).contains (.type "BaseException")=true:=by rw [List.contains_cons,List.contains_cons,show bmV.contains (.type "BaseException")=true by decide +kernel,Bool.or_true,Bool.or_true]
 obtain ⟨hp,g,d,tk,os⟩:=s₁
 repeat (first | with_reducible refine wpAny_loadPart_at he ?_ | with_reducible refine wpAny_loadPart_at hC ?_ | (with_reducible refine wpAny_isSubtype_exc hC ?_;rw [hcB]) | wp_step)
 exact wpAny_raiseNew_none hh hE
section
variable {P:Program} {w:World} {K:PySem.W.Frag} {mg:Str→Option Value} {base:Heap} {N:List Str} {qual:Str} {scope:Scope} {f:Addr} {cd:Value} {A:Around} {outer:List Env} {s:Shared} {H:Hp} {E:XK} {C R e dx:Addr} {fld:Str}
end
end DL
namespace DL
open PySem PySem.Spec PyProof.Rows L2
section
variable {X:Cx} {pins:List (Addr×Obj)} {σ:L2.St} {H:Hp} {s:Shared}
theorem lW {M:Model} {A:Around} {E:Value→Shared→Prop} {i:Nat} {x:Str} {v:V} {Q:Unit→Shared→Prop} (I:L2.Inv X pins σ H s) (hN:X.N.Nodup) (hi:X.N[i]?=some x) (hk:X.env.scope.names.lookup x=some .local) (hv:σ[i]?=some (some v))
  (h:∀ s',L2.Inv X pins (σ.set i none) H s'→Q () s'):wpAny M A (unbindName X.env x) Q E s:=by
 obtain ⟨m,hn,hl⟩:=id I.loc
 have hcls:(X.env.scope.kind == .class || (X.env.scope.kind == .module && X.env.locals != X.env.globals))=false:=by rw [I.ok.kind];rfl
 have hiσ:i < σ.length:=by rw [I.len];exact (uL.mp hi).1
 have cne:=I.cne
 obtain ⟨u,r,q⟩:=hl i x v hi hv (.inl hk)
 have hm:m x=some u:=by
  rcases q with ⟨_,e⟩ | ⟨k,_⟩
  ·exact e
  ·rcases k with k | k
   ·rw [show X.env.kindOf x=X.env.scope.names.lookup x from rfl,hk] at k;cases k
   ·rw [show X.env.kindOf x=X.env.scope.names.lookup x from rfl,hk] at k;cases k
 refine wpAny_unbindName_local hk hn hm hcls fun h' u' hn' hs=>?_
 obtain ⟨oL,_,_,hoL,_⟩:=id hn
 have tracked:HOk X.prog X.w H h':=fun b ob e=>by
  refine (I.hok b ob e).stay (fun c w' hc q=>(hs.2 c ?_).trans q) (fun _ q=>q) fun _ _ q=>q
  rintro rfl
  rcases hc with rfl | hc
  ·rw [I.free] at e;cases e
  ·rw [I.free] at hc;cases hc
 refine h _ ⟨I.ok,I.os,I.bare,⟨fun b o e n hb hx=>?_,fun b o e n hb hx=>?_,I.base.free,fun b o e hx=>?_,I.base.tups,I.base.frzs,I.base.tbls⟩,⟨_,hn',fun j y v' e1 e2 e3=>?_⟩,fun y c e=>?_,I.free,I.freeC,fun p hp=>?_,tracked,by simpa using I.len⟩
 ·exact (hs.2 b (Nat.ne_of_lt (Nat.lt_of_lt_of_le (Heap.lt_size e) I.ok.above))).trans (I.base.keep b o e n hb hx)
 ·obtain ⟨sl,e1⟩:=I.base.slot b o e n hb hx
  exact⟨sl,(hs.2 b (Nat.ne_of_lt (Nat.lt_of_lt_of_le (Heap.lt_size e) I.ok.above))).trans e1⟩
 ·obtain ⟨o',e1⟩:=I.base.there b o e hx
  exact⟨o',(hs.2 b (Nat.ne_of_lt (Nat.lt_of_lt_of_le (Heap.lt_size e) I.ok.above))).trans e1⟩
 ·by_cases hj:j=i
  ·subst hj
   rw [List.getElem?_set_self hiσ] at e2
   cases e2
  ·rw [List.getElem?_set_ne (Ne.symm hj)] at e2
   obtain ⟨u',r',q⟩:=hl j y v' e1 e2 e3
   refine⟨u',r',?_⟩
   rcases q with ⟨k,e⟩ | ⟨k,c,e,z⟩
   ·refine .inl ⟨k,?_⟩
    have:y≠x:=fun e=>hj (fZ hN e1 (e ▸ hi))
    simp [this,e]
   ·exact .inr ⟨k,c,e,z.sameBut hs (cne y c e)⟩
 ·obtain ⟨w',z⟩:=I.cell y c e
  exact⟨w',z.sameBut hs (cne y c e)⟩
 ·obtain ⟨e,n,ne,nf,d⟩:=I.pin p hp
  exact⟨(hs.2 p.1 ne).trans e,n,ne,nf,d⟩
abbrev _root_.L2.Cx.inTry (X:Cx) (pins:List (Addr×Obj)) (E:Value→Shared→Prop):Cx:={ X with pn:=X.pn++pins,xe:=E }
theorem mK {E:Value→Shared→Prop} (ok:X.Ok):(X.inTry pins E).Ok:=⟨ok.mod,ok.kind,ok.glob,ok.blt,ok.above,ok.inj,ok.has,ok.cab,ok.hd,ok.frames,ok.stk,ok.exf,ok.bs,ok.bsz,ok.noex,ok.exfs,ok.funs,ok.frf⟩
theorem m6 {E:Value→Shared→Prop} (ok:(X.inTry pins E).Ok):X.Ok:=⟨ok.mod,ok.kind,ok.glob,ok.blt,ok.above,ok.inj,ok.has,ok.cab,ok.hd,ok.frames,ok.stk,ok.exf,ok.bs,ok.bsz,ok.noex,ok.exfs,ok.funs,ok.frf⟩
theorem uy {E:Value→Shared→Prop} (I:L2.Inv X pins σ H s):L2.Inv (X.inTry pins E) [] σ H s:=⟨mK I.ok,I.os,I.bare,I.base,I.loc,I.cell,I.free,I.freeC,fun p hp=>I.pin p (by simpa using hp),I.hok,I.len⟩
theorem ko {E:Value→Shared→Prop} {q:List (Addr×Obj)} (I:L2.Inv (X.inTry pins E) q σ H s):L2.Inv X pins σ H s:=⟨m6 I.ok,I.os,I.bare,I.base,I.loc,I.cell,I.free,I.freeC,fun p hp=>I.pin p (uI _ hp),I.hok,I.len⟩
inductive fh (X:Cx) (pins:List (Addr×Obj)) (Ex:XK) (v:Value) (s':Shared):Prop
 | mk (σ:L2.St) (H':Hp) (e C dx:Addr) (a t:Value) (hv:v=.ref e) (I:L2.Inv X pins σ H' s') (he:s'.heap.get? e=some (xob C (some dx) a t)) (ht:TbOk s'.heap e t)
  (hT:∀ T,t=.ref T→H' T=none∧X.s₀.heap.objs.size≤T∧T≠X.env.locals∧(∀ x c,X.env.cells.lookup x=some c→c≠T)∧∀ p∈X.pn++pins,p.1≠T) (hX:H' e=some (XAt e C dx)) (hE:Ex (.ref e) (some dx) H')
end
section
variable {X:Cx} {pins:List (Addr×Obj)} {Ex:XK} {v:Value} {s:Shared} {M:Model} {A:Around} {E:Value→Shared→Prop} {Q:Unit→Shared→Prop}
theorem eF {fs:List Addr} {h h':Heap} {e C dx:Addr} {H':Hp} (hX:H' e=some (XAt e C dx)) (ch:List Addr) (keep:∀ b o,h.get? b=some o→b≠e→b∉ch→b∉fs→h'.get? b=some o)
  (slot:∀ b o,h.get? b=some o→b≠e→b∉ch→∃ sl,h'.get? b=some { o with slots:=sl }) (there:∀ b o,h.get? b=some o→∃ o',h'.get? b=some o'):Un fs ch H' H' h h' :=
 ⟨fun b o hb hn hf hx=>keep b o hb (fun z=>by rw [z,hX] at hn;cases hn) hx hf,fun b o hb hn _ hx=>slot b o hb (fun z=>by rw [z,hX] at hn;cases hn) hx,fun _ _ _ hn _=>hn,fun b o hb _=>there b o hb,fun _ _ q=>q,fun _ _ _ q=>q,fun b ps q=>⟨#[],by rw [Array.append_empty];exact q⟩⟩
def trk:Value→List Addr
 | .ref T=>[T]
 | _=>[]
theorem le {t:Value} {b:Addr} (h:b∉trk t):t≠.ref b:=fun z=>h (by rw [z];exact uP.mpr rfl)
theorem rM {t:Value} {b:Addr} (h:b∈trk t):t=.ref b:=by
 cases t with
 | ref T=>rw [uP.mp h]
 | _=>cases h
theorem kg (hst:X.stack=X.env :: X.outer∧X.env.frame=some X.env.locals) (hA:A.frames=some X.stack) (L:fh X pins Ex v s) (h:∀ h',fh X pins Ex v { s with heap:=h' }→Q () { s with heap:=h' }) :
  wpAny M A (noteFrame v X.env) (fun _ s2=>wpAny M A (setFlight v none) Q E s2) E s:=by
 obtain ⟨σ,H',e,C,dx,a,t,rfl,I,he,ht,hT,hX,hE⟩:=L
 have st:=I.stack
 have sf:=I.stkFree
 rw [hst.1] at hA st
 refine note hA st hst.2 he ht fun h' T l=>h h' ⟨σ,H',e,C,dx,a,.ref T,rfl,?_,l.ex,l.tb,fun T' z=>?_,hX,hE⟩
 ·refine I.call' (s':={ s with heap:=h' }) (ch:=trk t) rfl (eF hX _ (fun b o hb hbe hc hf=>l.keep b o hb hbe (le hc) (by rw [← hst.1];exact hf)) (fun b o hb hbe hc=>l.slot b o hb hbe (le hc)) l.there) (l.hok I.hok hX (fun T z=>(hT T z).1) (by rw [← hst.1];exact sf)) I.bare fun b hb=>?_
  obtain ⟨_,z2,z3,z4,z5⟩:=hT b (rM hb)
  exact⟨.inr z2,z3,z4,z5⟩
 ·cases z
  have fr:s.heap.objs.size≤T:=l.new
  refine⟨I.hok.fresh fr,uD I.sz fr,fun y=>?_,fun x c hxc y=>?_,fun p hp y=>?_⟩
  ·exact absurd (Nat.lt_of_lt_of_le I.lt fr) (by rw [y];exact Nat.lt_irrefl _)
  ·obtain ⟨w',o,ho,_⟩:=I.cell x c hxc
   exact absurd (Nat.lt_of_lt_of_le (Heap.lt_size ho) fr) (by rw [y];exact Nat.lt_irrefl _)
  ·exact absurd (Nat.lt_of_lt_of_le (Heap.lt_size (I.pin p hp).1) fr) (by rw [y];exact Nat.lt_irrefl _)
theorem hG (L:fh X pins Ex v s) (h:∀ h',fh X pins Ex v { s with heap:=h' }→Q () { s with heap:=h' }):wpAny M A (setFlight v none) Q E s:=by
 obtain ⟨σ,H',e,C,dx,a,t,rfl,I,he,ht,hT,hX,hE⟩:=L
 unfold setFlight
 refine wpAny_bind (wpAny_field he rfl (x:=t) rfl ?_)
 have ht0:=ht
 rcases ht with rfl | ⟨T,oT,ts,rfl,hTe,hg,hd,h3⟩
 ·rw [if_neg (by decide)]
  exact wpAny_pure (h s.heap ⟨σ,H',e,C,dx,a,.none,rfl,I,he,ht0,hT,hX,hE⟩)
 ·rw [if_pos (show (Value.ref T != Value.none)=true from by simp)]
  have hsz:3 < ts.size:=(Array.getElem?_eq_some_iff.mp h3).1
  have other:∀ b,b≠T→(s.heap.update T (Obj.mapFields (·.setIfInBounds 3 ((none:Option Addr).elim Value.none fun f=>rawInt f)))).get? b=s.heap.get? b:=fun b hb=>Heap.get?_update_other _ _ (Ne.symm hb)
  have self:=Heap.get?_update_self (Obj.mapFields (·.setIfInBounds 3 ((none:Option Addr).elim Value.none fun f=>rawInt f))) hg (Obj.isFreed_of_fields (Obj.data_mapFields hd _))
  refine wpAny_setField hg hd hsz (h _ ⟨σ,H',e,C,dx,a,.ref T,rfl,?_,(other e (Ne.symm hTe)).trans he,.inr ⟨T,_,_,rfl,hTe,self,Obj.data_mapFields hd _,by simp [hsz]⟩,hT,hX,hE⟩)
  obtain ⟨z1,z2,z3,z4,z5⟩:=hT T rfl
  refine I.call' (ch:=[T]) rfl (eF hX _ (fun b o hb _ hc _=>(other b fun z=>hc (by rw [z];exact uP.mpr rfl)).trans hb) (fun b o hb _ hc=>⟨o.slots,(other b fun z=>hc (by rw [z];exact uP.mpr rfl)).trans hb⟩) fun b o hb=>?_) (fun b o q=>?_) I.bare fun b hb=>?_
  ·by_cases z:b=T
   ·exact⟨_,by rw [z];exact self⟩
   ·exact⟨o,(other b z).trans hb⟩
  ·refine (I.hok b o q).stay (fun c u hc hu=>(other c fun z=>?_).trans hu) (fun _ r=>r) fun _ _ r=>r
   rcases hc with rfl | hc
   ·rw [z,z1] at q;cases q
   ·rw [z,z1] at hc;cases hc
  ·rw [uP.mp hb]
   exact⟨.inr z2,z3,z4,z5⟩
theorem se {h:Heap} {g:Array GenState} {d:Drawn} {t:Nat} {os:OsState} {e C N R NR:Addr} {mN mR:Str→Option Value} {dx:Option Addr} {a tb:Value} {Q:Bool→Shared→Prop} (c:C2 h C N R NR mN mR) (he:h.get? e=some (xob C dx a tb)) (hq:Q true ⟨h,g,d,t,os⟩) :
  wpAny M A (excMatches (.ref e) (.ref R)) Q E ⟨h,g,d,t,os⟩:=by
 obtain ⟨⟨nm,q,bs,sn,sub,ab,col,dd,k0,k1,k2,k3,k5,hC⟩,⟨nm',q',bs',sn',sub',ab',col',dd',j0,j1,j2,j3,j5,hR⟩,_⟩:=c
 have hcB:(Value.ref R :: bmV).contains (.type "BaseException")=true:=by rw [List.contains_cons,show bmV.contains (.type "BaseException")=true by decide +kernel,Bool.or_true]
 have hcC:(Value.ref C :: (Value.ref R :: bmV)).contains (.ref R)=true:=by simp
 have f:=tc_notTuple
 unfold excMatches
 repeat (first | (with_reducible refine wpAny_loadPart_at he ?_) | with_reducible refine wpAny_loadPart_at hR ?_ | (with_reducible refine wpAny_isSubtype_exc hR ?_;rw [hcB]) | (with_reducible refine wpAny_isSubtype_exc hC ?_;rw [hcC]) | wp_step)
 exact hq
end
abbrev _root_.L2.Cx.hdl (X:Cx) (A':Around) (E:Value→Shared→Prop):Cx:={ X with A:=A',calm:=false,xe:=E }
section
variable {X:Cx} {pins:List (Addr×Obj)} {σ:L2.St} {H:Hp} {s:Shared}
theorem rB {A':Around} {E:Value→Shared→Prop} (hA:A'.frames=some X.stack) (I:L2.Inv X pins σ H s):L2.Inv (X.hdl A' E) pins σ H s :=
 ⟨⟨I.ok.mod,I.ok.kind,I.ok.glob,I.ok.blt,I.ok.above,I.ok.inj,I.ok.has,I.ok.cab,(fun z=>nomatch z),hA,I.ok.stk,I.ok.exf,I.ok.bs,I.ok.bsz,I.ok.noex,I.ok.exfs,I.ok.funs,I.ok.frf⟩,I.os,I.bare,I.base,I.loc,I.cell,I.free,I.freeC,I.pin,I.hok,I.len⟩
theorem tZ {A':Around} {E:Value→Shared→Prop} (ok:X.Ok) (I:L2.Inv (X.hdl A' E) pins σ H s):L2.Inv X pins σ H s:=⟨ok,I.os,I.bare,I.base,I.loc,I.cell,I.free,I.freeC,I.pin,I.hok,I.len⟩
def sTry (X:Cx) (R:Addr) (j:Nat) (tb:List (Addr×Obj)→(Value→Shared→Prop)→TS) (ts:TS):TS:=fun D σ H=>∃ Ex:XK,(∀ e C dx H',H' e=some (XAt e C dx)→Ex (.ref e) (some dx) H'→∃ N NR mN mR,∀ h,X.K.In h→C2 h C N R NR mN mR)∧(∀ pins E,(∀ v s',fh X pins Ex v s'→E v s')→tb pins E D σ H) ∧
 ∀ (σ':L2.St) (H':Hp) (e C dx:Addr),σ'.length=σ.length→H' e=some (XAt e C dx)→Ex (.ref e) (some dx) H'→ts { nx:=fun σ2 H2=>D.nx (σ2.set j none) H2,rt:=fun _ _=>False } (σ'.set j (some (.ref e))) H'
theorem rS {R:Addr} {body:List Stmt} {st:Stmt} {n xR:Str} {j:Nat} {np hpos pos:Pos} {tb:List (Addr×Obj)→(Value→Shared→Prop)→TS} {ts:TS} (hst:X.stack=X.env :: X.outer∧X.env.frame=some X.env.locals) (hN:X.N.Nodup) (hj:X.N[j]?=some n) (hk:X.env.scope.names.lookup n=some .local)
  (hg:Gl X xR) (hm:X.mg xR=some (.ref R))
  (hb:∀ (pins:List (Addr×Obj)) (E:Value→Shared→Prop),PSs (X.inTry pins E) body (tb pins E)) (hs:∀ A' E',PSs (X.hdl A' E') [st] ts) (hdb:(xR == ("__debug__":Str))=false:=by decide) :
  PS X (.Try body [.ExceptHandler (some (.Name xR np)) (some n) [st] hpos] [] [] pos) (sTry X R j tb ts):=by
 intro pins s σ H D I h
 obtain ⟨Ex,hcl,h1,h2⟩:=h
 rw [arm_exec_Try]
 refine wpAny_bind (wpAny_standAt (wpAny_tryStmt_except ?_))
 have key:∀ v s',fh X pins Ex v s'→(fun v s₁=>wpAny (model X.prog X.w) X.A (noteFrame v X.env) (fun _ s₂=>wpAny (model X.prog X.w) X.A (setFlight v none) (fun _ s₃=>wpAny (model X.prog X.w) X.A (handleBy v X.env [.ExceptHandler (some (.Name xR np)) (some n) [st] hpos]) (SP X pins D) X.xe s₃) X.xe s₂) X.xe s₁) v s':=fun v s' L=>?_
 refine wpAny_mono (hb pins _ [] s σ H D (uy I) (h1 pins _ key)) (fun f s1 q=>?_) fun _ _ q=>q
 ·cases f with
  | next =>
   obtain ⟨σ',H',I',q⟩:=q
   exact wpAny_execs_nil ⟨σ',H',ko I',q⟩
  | brk=>obtain ⟨σ',H',I',q⟩:=q;exact⟨σ',H',ko I',q⟩
  | cont=>obtain ⟨σ',H',I',q⟩:=q;exact⟨σ',H',ko I',q⟩
  | ret u=>obtain ⟨v,σ',H',I',r,q⟩:=q;exact⟨v,σ',H',ko I',r,q⟩
 ·refine kg hst I.ok.frames L fun h' L=>?_
  obtain ⟨σ1,H1,e,C,dx,a,t,rfl,I1,he,ht,hT,hX,hE⟩:=id L
  have hA:(X.A.mark (some (.ref e))).frames=some X.stack:=I.ok.frames
  obtain ⟨N,NR,mN,mR,c2⟩:=hcl e C dx _ hX hE
  refine wpAny_handleBy_cons (codeAny_handlers_test (eL (X:=X.hdl (X.A.mark (some (.ref e))) X.xe) (rB hA I1) hg hm ?_ hdb)) (by intro q;cases q)
  refine se (c2 _ I1.kIn) he ?_
  show codeAny _ _ (.handlers (.ref e) [.ExceptHandler none (some n) [st] hpos] X.env) _ _
  refine codeAny_handlers_suite_as (hG L fun h2' L2=>?_)
  obtain ⟨σ2,H2,e2,C2',dx2,a2,t2,hv2,I2,he2,ht2,hT2,hX2,hE2⟩:=L2
  cases hv2
  refine dU I2 hN hj (.inl hk) (v:=.ref e) rfl (fun s3 I3=>?_) (.inr hk)
  refine wpAny_mono (hs (X.A.mark (some (.ref e))) _ pins s3 _ H2 _ (rB hA I3) (h2 σ2 H2 e C2' dx2 (by rw [I2.len,I.len]) hX2 hE2)) (fun f s4 q=>?_) fun _ _ z=>z
  cases f with
  | next =>
   obtain ⟨σ4,H4,I4,q4⟩:=q
   have I5:=tZ I.ok I4
   refine wpAny_bind (wpAny_bindName (dU I5 hN hj (.inl hk) (v:=.non) rfl (fun s5 I6=>?_) (.inr hk)))
   unfold unbindBehindTheSuite
   have hl:j < σ4.length:=by rw [I5.len];exact (uL.mp hj).1
   refine wpAny_onRaise (lW I6 hN hj hk (v:=.non) (by rw [List.getElem?_set_self hl]) fun s6 I7=>?_)
   rw [List.set_set] at I7
   exact⟨_,H4,I7,q4⟩
  | brk=>obtain ⟨σ',H',I',q⟩:=q;exact q.elim
  | cont=>obtain ⟨σ',H',I',q⟩:=q;exact q.elim
  | ret u=>obtain ⟨v,σ',H',I',r,q⟩:=q;exact q.elim
end
end DL
namespace DL
open PySem PySem.Spec PyProof.Rows L2
def tM (L:Addr) (h:Heap) (e:Addr) (t:Value):Prop:=∃ T oT ts,t=.ref T∧T≠e∧h.get? T=some oT∧oT.data=.fields ts∧ts[3]?=some (rawInt L)
section
variable {M:Model} {A:Around} {E:Value→Shared→Prop} {s:Shared} {base:Heap} {env:Env} {outer:List Env} {L e C:Addr} {dx:Option Addr} {a t:Value} {Q:Unit→Shared→Prop}
end
inductive qt (X:Cx) (E:XK) (v:Value) (s':Shared):Prop
 | mk (σ:L2.St) (H':Hp) (e C dx:Addr) (a t:Value) (hv:v=.ref e) (I:L2.Inv X [] σ H' s') (he:s'.heap.get? e=some (xob C (some dx) a t)) (ht:TbOk s'.heap e t∨tM X.env.locals s'.heap e t)
  (hT:∀ T,t=.ref T→H' T=none∧X.s₀.heap.objs.size≤T∧T≠X.env.locals∧(∀ x c,X.env.cells.lookup x=some c→c≠T)∧∀ p∈X.pn++[],p.1≠T) (hX:H' e=some (XAt e C dx)) (hE:E (.ref e) (some dx) H')
abbrev _root_.L2.Cx.lx (X:Cx) (E:XK):Cx:={ X with xe:=qt X E }
section
variable {X:Cx} {E:XK} {pins:List (Addr×Obj)} {σ:L2.St} {H:Hp} {s:Shared}
theorem uj {e:Value→Shared→Prop} (ok:X.Ok):({ X with xe:=e }:Cx).Ok:=⟨ok.mod,ok.kind,ok.glob,ok.blt,ok.above,ok.inj,ok.has,ok.cab,ok.hd,ok.frames,ok.stk,ok.exf,ok.bs,ok.bsz,ok.noex,ok.exfs,ok.funs,ok.frf⟩
theorem toLx {e:Value→Shared→Prop} (I:L2.Inv X pins σ H s):L2.Inv { X with xe:=e } pins σ H s:=⟨uj I.ok,I.os,I.bare,I.base,I.loc,I.cell,I.free,I.freeC,I.pin,I.hok,I.len⟩
theorem ofLx {e:Value→Shared→Prop} (I:L2.Inv { X with xe:=e } pins σ H s):L2.Inv X pins σ H s:=toLx (X:={ X with xe:=e }) (e:=X.xe) I
theorem sB (I:L2.Inv X pins σ H s):L2.Inv X [] σ H s:=⟨I.ok,I.os,I.bare,I.base,I.loc,I.cell,I.free,I.freeC,fun p hp=>I.pin p (by rw [List.append_nil] at hp;exact uI _ hp),I.hok,I.len⟩
theorem ml {H':Hp} {e C dx:Addr} {s':Shared} (L:il (X.lx E) pins H' e C dx s') (hE:E (.ref e) (some dx) H'):qt X E (.ref e) s':=by
 obtain ⟨σ,a,t,I,he,ht,hT,hX⟩:=L.ex
 refine⟨σ,H',e,C,dx,a,t,rfl,sB (ofLx I),he,.inl ht,fun T z=>?_,hX,hE⟩
 obtain ⟨z1,z2,z3,z4,z5⟩:=hT T z
 exact⟨z1,z2,z3,z4,fun p hp=>z5 p (by rw [List.append_nil] at hp;exact uI _ hp)⟩
theorem ld {fl:Value} {Q:Unit→Shared→Prop} {M:Model} {A:Around} {W:Value→Shared→Prop} {H':Hp} {e C dx T:Addr} {a:Value} {oT:Obj} {ts:Array Value} (I:L2.Inv X [] σ H' s) (he:s.heap.get? e=some (xob C (some dx) a (.ref T))) (hTe:T≠e) (hg:s.heap.get? T=some oT) (hd:oT.data=.fields ts) (h3:3 < ts.size)
  (hT:H' T=none∧X.s₀.heap.objs.size≤T∧T≠X.env.locals∧(∀ x c,X.env.cells.lookup x=some c→c≠T)∧∀ p∈X.pn++[],p.1≠T) (hX:H' e=some (XAt e C dx))
  (h:∀ h',L2.Inv X [] σ H' { s with heap:=h' }→h'.get? e=some (xob C (some dx) a (.ref T))→(∃ oT ts,h'.get? T=some oT∧oT.data=.fields ts∧ts[3]?=some fl)→Q () { s with heap:=h' }):wpAny M A (setField (.ref T) 3 fl) Q W s:=by
 have other:∀ b,b≠T→(s.heap.update T (Obj.mapFields (·.setIfInBounds 3 fl))).get? b=s.heap.get? b:=fun b hb=>Heap.get?_update_other _ _ (Ne.symm hb)
 have self:=Heap.get?_update_self (Obj.mapFields (·.setIfInBounds 3 fl)) hg (Obj.isFreed_of_fields (Obj.data_mapFields hd _))
 obtain ⟨z1,z2,z3,z4,z5⟩:=hT
 refine wpAny_setField hg hd h3 (h _ ?_ ((other e (Ne.symm hTe)).trans he) ⟨_,_,self,Obj.data_mapFields hd _,by simp [h3]⟩)
 refine I.call' (ch:=[T]) rfl (eF hX _ (fun b o hb _ hc _=>(other b fun z=>hc (by rw [z];exact uP.mpr rfl)).trans hb) (fun b o hb _ hc=>⟨o.slots,(other b fun z=>hc (by rw [z];exact uP.mpr rfl)).trans hb⟩) fun b o hb=>?_) (fun b o q=>?_) I.bare fun b hb=>?_
 ·by_cases z:b=T
  ·exact⟨_,by rw [z];exact self⟩
  ·exact⟨o,(other b z).trans hb⟩
 ·refine (I.hok b o q).stay (fun c u hc hu=>(other c fun z=>?_).trans hu) (fun _ r=>r) fun _ _ r=>r
  rcases hc with rfl | hc
  ·rw [z,z1] at q;cases q
  ·rw [z,z1] at hc;cases hc
 ·rw [uP.mp hb]
  exact⟨.inr z2,z3,z4,z5⟩
end
end DL
namespace DL
open PySem PySem.Spec PyProof.Rows L2
section
variable {X:Cx} {pins:List (Addr×Obj)}
theorem tR:je (CXE X.prog X.w) X (XEs X):=by
 intro pins σ H s v s' I hc
 obtain ⟨e,C,dx,a,t,H',rfl,os,bare,un,hok,he,ht,hT,hX,hx⟩:=hc
 have lo:∀ T,t=.ref T→s.heap.objs.size≤T:=fun T z=>(hT T z).2
 refine hx e C dx pins s' rfl rfl ⟨σ,a,t,I.call' (ch:=[]) os un hok bare (fun b z=>absurd z (by simp)),he,ht,fun T z=>⟨(hT T z).1,uD I.sz (lo T z),fun y=>?_,fun x c hxc y=>?_,fun p hp y=>?_⟩,hX⟩
 ·exact absurd (Nat.lt_of_lt_of_le I.lt (lo T z)) (by rw [y];exact Nat.lt_irrefl _)
 ·obtain ⟨w',o,ho,_⟩:=I.cell x c hxc
  exact absurd (Nat.lt_of_lt_of_le (Heap.lt_size ho) (lo T z)) (by rw [y];exact Nat.lt_irrefl _)
 ·have:=(I.pin p hp).1
  exact absurd (Nat.lt_of_lt_of_le (Heap.lt_size this) (lo T z)) (by rw [y];exact Nat.lt_irrefl _)
end
section
variable {P:Program} {w:World} {K:PySem.W.Frag} {mg:Str→Option Value} {base:Heap} {N:List Str} {qual:Str} {scope:Scope} {f:Addr} {cd:Value} {A:Around} {outer:List Env} {s:Shared} {H:Hp} {E:XK}
theorem tV {pins:List (Addr×Obj)} {H':Hp} {e C dx:Addr} {s':Shared} (L:il (cxOf (CXE P w) P w K mg base N qual scope f cd A outer s H E) pins H' e C dx s') (hE:E (.ref e) (some dx) H'):(cxOf (CXE P w) P w K mg base N qual scope f cd A outer s H E).xe (.ref e) s':=by
 obtain ⟨σ,a,t,I',he,ht,hT,hX⟩:=L.ex
 show wpAny _ _ _ _ _ _
 refine tO I'.ok.frames I'.stack rfl he ht fun h' T l=>?_
 have hTn:∀ T,t=.ref T→H' T=none:=fun T z=>(hT T z).1
 refine⟨e,C,dx,a,.ref T,H',rfl,I'.os,I'.bare,?_,l.hok I'.hok hX hTn I'.stkFree,l.ex,l.tb,fun T' z=>?_,hX,hE⟩
 ·have old:∀ b o,s.heap.get? b=some o→t≠.ref b:=fun b o hb z=>absurd (Nat.lt_of_lt_of_le (Heap.lt_size hb) (hT b z).2.1) (Nat.lt_irrefl _)
  have nfr:∀ b o,s.heap.get? b=some o→b≠s.heap.objs.size:=fun b o hb=>Nat.ne_of_lt (Heap.lt_size hb)
  have ne:∀ b,H' b=none→b≠e:=fun b z q=>by rw [q,hX] at z;cases z
  refine⟨fun b o hb hn hf hx=>?_,fun b o hb hn hf hx=>?_,fun b o hb hn hx=>?_,fun b o hb hx=>?_,I'.base.tups,I'.base.frzs,I'.base.tbls⟩
  ·exact l.keep b o (I'.base.keep b o hb hn hf hx) (ne b (I'.base.free b o hb hn hx)) (old b o hb) fun z=>by
    rcases uG.mp (show b∈s.heap.objs.size :: frs outer from z) with z | z
    ·exact nfr b o hb z
    ·exact hf z
  ·obtain ⟨sl,q⟩:=I'.base.slot b o hb hn hf hx
   obtain ⟨sl',q'⟩:=l.slot b _ q (ne b (I'.base.free b o hb hn hx)) (old b o hb)
   exact⟨sl',q'⟩
  ·exact I'.base.free b o hb hn hx
  ·obtain ⟨o',q⟩:=I'.base.there b o hb hx
   exact l.there b o' q
 ·cases z
  have fr:s'.heap.objs.size≤T:=l.new
  exact⟨I'.hok.fresh fr,uD I'.sz fr⟩
theorem t3 {v:Value} {s':Shared} (L:qt (cxOf (CXE P w) P w K mg base N qual scope f cd A outer s H E) E v s'):(cxOf (CXE P w) P w K mg base N qual scope f cd A outer s H E).xe v s':=by
 obtain ⟨σ,H',e,C,dx,a,t,rfl,I',he,ht,hT,hX,hE⟩:=L
 rcases ht with ht | hN
 ·exact tV (pins:=[]) ⟨σ,a,t,I',he,ht,hT,hX⟩ hE
 ·obtain ⟨T,oT,ts,rfl,hTe,hg,hd,h3⟩:=hN
  show wpAny _ _ (leaving _ _) _ _ _
  unfold leaving noteFrame
  refine wpAny_bind ?_
  show wpAny _ _ (do let head←field (Value.ref e) 1;_) _ _ _
  refine wpAny_bind (wpAny_field he rfl (x:=.ref T) rfl ?_)
  rw [if_pos (show (Value.ref T != Value.none)=true from by simp)]
  refine wpAny_bind (wpAny_field hg hd h3 ?_)
  rw [if_pos (by simp;rfl)]
  refine wpAny_pure ?_
  unfold setFlight
  refine wpAny_bind (wpAny_field he rfl (x:=.ref T) rfl ?_)
  rw [if_pos (show (Value.ref T != Value.none)=true from by simp)]
  refine ld I' he hTe hg hd (Array.getElem?_eq_some_iff.mp h3).1 (hT T rfl) hX fun h' I2 he2 hr=>?_
  obtain ⟨oT',ts',g1,g2,g3⟩:=hr
  refine⟨e,C,dx,a,.ref T,H',rfl,I2.os,I2.bare,I2.base,I2.hok,he2,.inr ⟨T,oT',ts',rfl,hTe,g1,g2,g3⟩,fun T' z=>?_,hX,hE⟩
  cases z
  exact⟨(hT T rfl).1,(hT T rfl).2.1⟩
end
theorem PSs.lx {X:Cx} {W:Value→Shared→Prop} {st:List Stmt} {t:TS} (h:PSs { X with xe:=W } st t) (hW:∀ v s',W v s'→X.xe v s'):PSs X st t:=fun pins s σ H D I hw =>
 wpAny_mono (h pins s σ H D (toLx I) hw) (fun f s' q=>by
  cases f with
  | next=>obtain ⟨σ',H',I',q⟩:=q;exact⟨σ',H',ofLx I',q⟩
  | brk=>obtain ⟨σ',H',I',q⟩:=q;exact⟨σ',H',ofLx I',q⟩
  | cont=>obtain ⟨σ',H',I',q⟩:=q;exact⟨σ',H',ofLx I',q⟩
  | ret u=>obtain ⟨v,σ',H',I',r,q⟩:=q;exact⟨v,σ',H',ofLx I',r,q⟩) hW
abbrev FE:=List D→(D→Prop)→(Str→Str→D→Prop)→Prop
inductive spE (K:PySem.W.Frag) (f:FE) (vs:List V) (H:Hp) (Q:VK) (E:XK):Prop
 | mk (M:Addr→Prop) (ds:List D) (R:D→Prop) (RE:Str→Str→D→Prop) (m:∀ b,M b→H b≠none) (rs:Reps K M H ds vs) (h:f ds R RE) (k:∀ d,R d→∀ v H',Same H H'→Rep K M H' d v→Q v H')
  (kx:∀ c fl d,RE c fl d→∀ e C dx H',Same H H'→H' e=some (XAt e C dx)→Rep K M H' (.exn c fl d) (.ref e)→E (.ref e) (some dx) H')
structure CalE (P:Program) (w:World) (K:PySem.W.Frag) (mg:Str→Option Value) (base:Heap) (k:Nat) (x:Str) (ps:List Str) (f:FE):Prop where
 ex:∃ (a:Addr) (fd:FuncData),FnOk P w K mg base (CXE P w) k a fd ps (spE K f)∧c8 K fd ps []∧PySem.W.keepIn K (.ref a)=true∧mg x=some (.ref a)
section
variable {P:Program} {w:World} {K:PySem.W.Frag} {mg:Str→Option Value} {base:Heap}
theorem fn_E {x:Str} {st:Stmt} {N ps:List Str} {k:Nat} {f:FE} (F:Fd K mg x st ps) (Sc:ar N ps (ah st)) (len:∀ ds R RE,f ds R RE→ds.length=ps.length)
    (hbody:∀ (a:Addr) (cdv:Value) (A:Around) (outer:List Env) (s:Shared) (H:Hp) (E:XK) (ds:List D) (R:D→Prop) (RE:Str→Str→D→Prop),Room k (A.deeper (envOfC x (ah st) s.heap.objs.size a cdv))→f ds R RE →
      ∃ t,DSs ((cxOf (CXE P w) P w K mg base N x (ah st) a cdv A outer s H E).lx E) (aM st) t∧t { nx:=fun _=>R .non,rt:=fun d _=>R d,ro:=R,ex:=RE } (cn N ds)) :
    CalE P w K mg base (k + 1) x ps f:=by
  obtain ⟨a,fd,Fu,b,m⟩:=F.ex
  refine⟨a,fd,?_,b,Fu.kp,m⟩
  obtain ⟨oc,od,kV,doc,pm,an,cdv,ct,osl,rfl,lk,hcd⟩:=Fu.ex
  refine rq lk hcd Sc (fun vs H Q E h=>?_) fun A outer s H vs Q E hr h=>?_
  · obtain ⟨M,ds,R,RE,_,rs,hf,_,_⟩:=h
    rw [← Reps.length _ _ rs]
    exact len _ _ _ hf
  · obtain ⟨M,ds,R,RE,hm,rs,hf,hk,hkx⟩:=h
    obtain ⟨t,ht,hq⟩:=hbody a cdv A outer s H E ds R RE hr hf
    refine⟨_,PSs.lx ht (fun _ _=>t3),⟨M,H,fun _=>False⟩,cn N ds,[],_,hZ N hm rs,hq,fun δ' r σ' H' hs=>?_,⟨fun d δ' r v σ' H' hs=>?_,fun d r a H' hs=>?_,fun c fl d r e C dx δ' σ' H' hs hX=>?_⟩,fun _ h=>h.elim,fun _ h=>h.elim,fun z=>z.elim⟩
    · obtain ⟨A',x⟩:=hs
      exact hk .non r .non H' (fun b o e=>x.old b o e id) (by unfold Rep;rfl)
    · obtain ⟨A',x⟩:=hs
      exact hk d r v H' (fun b o e=>x.old b o e id) (Rep.more (fun b z=>.inl (.inl z)) _ _ (x.pnd (d,v) (by simp)))
    · obtain ⟨o1,o2,o3,o4⟩:=hs
      exact hk d r (.ref a) H' (fun b o e=>o1 b o e id) (o4.rep o3 fun b z=>.inl z)
    · obtain ⟨A',x⟩:=hs
      intro e' C' dx' pins s' hC hd L
      cases hC
      cases hd
      refine ml L ?_
      exact hkx c fl d r e C dx H' (fun b o q=>x.old b o q id) hX (Rep.more (fun b z=>.inl (.inl z)) _ _ (x.pnd (.exn c fl d,.ref e) (by simp)))
end
section
variable {X:Cx} {pos:Pos} {a:Expr} {es:List Expr} {ta:TDE} {t:TDA} {f:FE}
theorem eA {K:PySem.W.Frag} {G:Gf} {δ:En} {P:List (D×V)} {σ:L2.St} {H:Hp} {Q:VK} {Wx:XK} {Rv:D→En→Prop} {RE:Str→Str→D→Prop} (s:S K G δ P σ H) (h:t δ fun ds δ1=>f ds (fun d=>Rv d δ1) RE)
  (k:∀ d δ',Rv d δ'→∀ v H',S K G δ' ((d,v) :: P) σ H'→Q v H') (kx:∀ c fl d,RE c fl d→∀ e C dx δ' σ' H',S K G δ' ((.exn c fl d,.ref e) :: P) σ' H'→H' e=some (XAt e C dx)→Wx (.ref e) (some dx) H') :
  o8 (spE K f) [] Wx (upA K t) σ H Q:=by
 refine⟨G,δ,P,_,s,h,fun ds δ1 h1 vs H1 hl s1=>?_⟩
 obtain ⟨A,x⟩:=s1
 rw [List.append_nil]
 refine⟨fun b=>G.M0 b∨A b,ds,_,RE,x.mem,x.reps ds vs hl (fun q hq=>uI _ hq),h1,fun d r v H' sm rp=>k d δ1 r v H' ⟨A,((x.same sm).sub (P':=P) fun q hq=>uH _ hq).push rp⟩,fun c fl d r e C dx H' sm hX rp=>kx c fl d r e C dx δ1 σ H' ⟨A,((x.same sm).sub (P':=P) fun q hq=>uH _ hq).push rp⟩ hX⟩
def rK (i:Nat) (f:FE) (t:TDA):TDS:=fun R δ=>t δ fun ds δ1=>f ds (fun d=>R.nx (δ1.set i (.dat d))) R.ex
def sr (f:FE) (t:TDA):TDS:=fun R δ=>t δ fun ds δ1=>f ds (fun d=>R.rt d δ1) R.ex
def nY (f:FE) (t:TDA):TDS:=fun R δ=>t δ fun ds δ1=>f ds (fun _=>R.nx δ1) R.ex
theorem fQ {x:Str} {k:Nat} {ps:List Str} {p:Pos} (C:CalE X.prog X.w X.K X.mg X.base k x ps f) (hr:Room k X.A) (hg:Gl X x) (ha:DA X (a :: es) t) (hdb:(x == ("__debug__":Str))=false:=by decide)
  (he:starEach (a :: es) X.env=(false,eval a X.env) :: starEach es X.env:=by rfl) (hpl:(backTo pos (starEach es X.env)).any (·.1)=false:=by rfl):PE X (.Call (.Name x p) (a :: es) [] pos) (o8 (spE X.K f) [] (XEs X) (upA X.K t)):=by
 obtain ⟨g,fd,F,b,kp,m⟩:=C.ex
 exact eI F hr hg m kp b .nil tR ha hdb he hpl
theorem lD (i:Nat) {x y:Str} {k:Nat} {ps:List Str} {p pos' cpos:Pos} (hN:X.N.Nodup) (C:CalE X.prog X.w X.K X.mg X.base k x ps f) (hr:Room k X.A) (hg:Gl X x) (ha:DA X (a :: es) t) (hdb:(x == ("__debug__":Str))=false:=by decide)
  (he:starEach (a :: es) X.env=(false,eval a X.env) :: starEach es X.env:=by rfl) (hpl:(backTo cpos (starEach es X.env)).any (·.1)=false:=by rfl) (hi:X.N[i]?=some y:=by rfl) (hx:Loc X.env.scope y:=by walk_at "v2")
  (hs:swapsWith (.Call (.Name x p) (a :: es) [] cpos) (some (.Name y pos')) pos.line X.env=pure false:=by rfl) (hf:X.fn y=true∨X.env.scope.names.lookup y=some .local :=by walk_at "v1") :
  DS X (.Assign [.Name y pos'] (.Call (.Name x p) (a :: es) [] cpos) pos) (rK i f t) :=
 PS.imp (et hN hi hx (fQ C hr hg ha hdb he hpl) hs hf) fun E σ H hu=>by
  obtain ⟨G,δ,P,R,s,h,k1,k2,_⟩:=hu
  exact eA (Rv:=fun d δ1=>R.nx (δ1.set i (.dat d))) s h (fun d δ' r v H' s1=>k1 _ r _ H' (s1.set (by simp) fun p hp=>by simp [hp])) k2.2.2
theorem qc {x:Str} {k:Nat} {ps:List Str} {p cpos:Pos} (C:CalE X.prog X.w X.K X.mg X.base k x ps f) (hr:Room k X.A) (hg:Gl X x) (ha:DA X (a :: es) t) (hdb:(x == ("__debug__":Str))=false:=by decide)
  (he:starEach (a :: es) X.env=(false,eval a X.env) :: starEach es X.env:=by rfl) (hpl:(backTo cpos (starEach es X.env)).any (·.1)=false:=by rfl):DS X (.Return (some (.Call (.Name x p) (a :: es) [] cpos)) pos) (sr f t) :=
 PS.imp (i8 (fQ C hr hg ha hdb he hpl)) fun E σ H hu=>by
  obtain ⟨G,δ,P,R,s,h,k1,k2,_⟩:=hu
  exact eA (Rv:=fun d δ1=>R.rt d δ1) s h (fun d δ' r v H' s1=>k2.1 d δ' r v σ H' s1) k2.2.2
theorem m8 {x:Str} {k:Nat} {ps:List Str} {p cpos:Pos} (C:CalE X.prog X.w X.K X.mg X.base k x ps f) (hr:Room k X.A) (hg:Gl X x) (ha:DA X (a :: es) t) (hdb:(x == ("__debug__":Str))=false:=by decide)
  (he:starEach (a :: es) X.env=(false,eval a X.env) :: starEach es X.env:=by rfl) (hpl:(backTo cpos (starEach es X.env)).any (·.1)=false:=by rfl) (hs:swapsWith (.Call (.Name x p) (a :: es) [] cpos) none pos.line X.env=pure false:=by rfl) :
  DS X (.Expr (.Call (.Name x p) (a :: es) [] cpos) pos) (nY f t) :=
 PS.imp (cY (fQ C hr hg ha hdb he hpl) hs) fun E σ H hu=>by
  obtain ⟨G,δ,P,R,s,h,k1,k2,_⟩:=hu
  exact eA (Rv:=fun _ δ1=>R.nx δ1) s h (fun d δ' r v H' s1=>k1 _ r _ H' (s1.sub fun p hp=>by simp [hp])) k2.2.2
variable {C R fI:Addr} {fld:Str} {k:Nat} {fd:FuncData} {ps:List Str} {x:Str} {p cpos:Pos} {b:Bool}
theorem Rep.made {K:PySem.W.Frag} {G:Gf} {δ:En} {P P':List (D×V)} {σ:L2.St} {H:Hp} {c:Str} {d:D} {v:V} {e dx:Addr} {o:HO} (s:S K G δ P σ H) (hp:(d,v)∈P) (hs:∀ q∈P',q∈P) (he:H e=none) (hdx:H dx=none) (hne:dx≠e) (ho:o=XAt e C dx∨o=XNew e C dx)
  (hns:PySem.W.nsIn K mainGlobals c=some (some (.ref C))):S K G δ ((.exn c fld d,.ref e) :: P') σ (upd (upd H dx (.xd [(fld,v)])) e o):=by
 obtain ⟨A,x⟩:=s
 have sm:Same H (upd (upd H dx (.xd [(fld,v)])) e o):=Same.trans (al hdx _) (al (by rw [ap (Ne.symm hne)];exact he) _)
 refine⟨A,((x.same sm).sub hs).push ?_⟩
 unfold Rep
 refine⟨v,⟨⟨e,C,dx,rfl,fun z=>x.mem e z he,fun z=>x.mem dx z hdx,?_,?_,hns⟩⟩,Rep.kp (Kp.of_same sm) _ _ (x.pnd (d,v) hp)⟩
 ·rw [ak]
  exact ho.imp (fun z=>by rw [z]) fun z=>by rw [z]
 ·rw [ap hne,ak]
def pdB:Bool→D→Prop
 | false,_=>True
 | true,d=>∃ x,d=.str x∧x.length≤100
theorem pdB.rep {K:PySem.W.Frag} {M:Addr→Prop} {H:Hp} {b:Bool} {d:D} {v:V} (h:pdB b d) (r:Rep K M H d v):pyB b v:=by
 cases b with
 | false=>trivial
 | true =>
  obtain ⟨x,rfl,l⟩:=h
  unfold Rep at r
  exact⟨x,r,l⟩
theorem S.pd {K:PySem.W.Frag} {G:Gf} {δ:En} {P:List (D×V)} {σ:L2.St} {H:Hp} {b:Bool} {d:D} {v:V} (s:S K G δ ((d,v) :: P) σ H) (h:pdB b d):pyB b v:=let ⟨_,x⟩:=s;h.rep (x.pnd (d,v) (uF ..))
end
theorem upd2 {H:Hp} {e:Addr} {a b:HO}:upd (upd H e a) e b=upd H e b:=funext fun z=>by
 by_cases h:z=e
 ·rw [h,ak,ak]
 ·rw [ap h,ap h,ap h]
section
variable {X:Cx} {pos:Pos} {a:Expr} {ta:TDE} {C R fI:Addr} {fld:Str} {k:Nat} {fd:FuncData} {ps:List Str} {x:Str} {p cpos:Pos} {t:TA} {b:Bool}
def oJ (X:Cx) (C:Addr) (fld:Str) (b:Bool) (t:TA):TS:=fun _ σ H=>nu C fld b t σ H fun v H3=>∃ e dx y H2,v=.ref e∧H3=upd (upd H2 dx (.xd [(fld,y)])) e (XNew e C dx)∧XEs X (.ref e) (some dx) (upd (upd H2 dx (.xd [(fld,y)])) e (XAt e C dx))
theorem lX (ek:EK X.K C R fld) (em:EM X.K C R fI) (F:FnOk X.prog X.w X.K X.mg X.base CX0 k fI fd ps (spI C fld b)) (hr:Room (k + 1) X.A) (hg:Gl X x) (hm:X.mg x=some (.ref C)) (hb:c8 X.K fd ps []) (ha:PA X [a] t) (hc:X.calm=true)
  (hdb:(x == ("__debug__":Str))=false:=by decide) (he:starEach [a] X.env=(false,eval a X.env) :: starEach [] X.env:=by rfl) (hpl:(backTo cpos (starEach [] X.env)).any (·.1)=false:=by rfl) :
  PS X (.Raise (some (.Call (.Name x p) [a] [] cpos)) none pos) (oJ X C fld b t):=by
 intro pins s1 σ H1 D I h
 obtain ⟨Nn,NR,mN,mR,c2,_⟩:=ek.ex
 rw [arm_exec_Raise]
 refine wpAny_bind (wpAny_standAt (sE (C:=C) (N:=Nn) (R:=R) (NR:=NR) (mN:=mN) (mR:=mR) (I.ok.hd hc) (wpAny_bind (thn (mj em F hr hg hm hb ha hdb he hpl pins s1 σ H1 _ I h) fun v s2 hs2=>?_))))
 obtain ⟨v',H3,I3,r,e,dx,y,H2,rfl,rfl,hE⟩:=hs2
 cases r
 obtain ⟨a',he'⟩:=(I3.hok e _ ak).1
 obtain ⟨hh,g,d,tk,os⟩:=s2
 have I4:=I3.write (t':=tk) (x:=e) (e:=e) (o:=XAt e C dx) (h':=hh) (by rw [ak];trivial) (.inl rfl) (fun _ _ _ q=>q) ⟨_,he'⟩ ⟨⟨a',.none,he'⟩,⟨_,he'⟩,fun h1 h2 p k=>by obtain ⟨a,t,p⟩:=p;exact⟨a,t,k _ p⟩⟩
 rw [upd2] at I4
 exact wpAny_bind (wpAny_standAt (wpAny_pure ⟨e,some dx,a',rfl,c2 _ I3.kIn,he',hE e C dx pins _ rfl rfl ⟨σ,a',.none,I4,he',.inl rfl,(fun T z=>nomatch z),ak⟩⟩))
def lc (c f:Str) (b:Bool) (ta:TDE):TDS:=fun R δ=>ta δ (wd fun d _=>pdB b d∧R.ex c f d)
theorem mQ (ek:EK X.K C R fld) (em:EM X.K C R fI) (F:FnOk X.prog X.w X.K X.mg X.base CX0 k fI fd ps (spI C fld b)) (hr:Room (k + 1) X.A) (hg:Gl X x) (hm:X.mg x=some (.ref C)) (hb:c8 X.K fd ps []) (hns:PySem.W.nsIn X.K mainGlobals x=some (some (.ref C))) (ha:DE X a ta) (hc:X.calm=true:=by rfl)
  (hdb:(x == ("__debug__":Str))=false:=by decide) (he:starEach [a] X.env=(false,eval a X.env) :: starEach [] X.env:=by rfl) (hpl:(backTo cpos (starEach [] X.env)).any (·.1)=false:=by rfl) :
  DS X (.Raise (some (.Call (.Name x p) [a] [] cpos)) none pos) (lc x fld b ta) :=
 PS.imp (lX ek em F hr hg hm hb (aI ha bS he) hc hdb he hpl) fun E σ H hu=>by
  obtain ⟨G,δ,P,R',s,h,k1,k2,_⟩:=hu
  refine up.mk s h fun d δ1 h1 v H1 s1=>⟨v,rfl,s1.pd h1.1,fun e dx he hdx hne=>⟨e,dx,v,H1,rfl,rfl,?_⟩⟩
  exact k2.2.2 x fld d h1.2 e C dx δ1 σ _ (Rep.made s1 (by simp) (fun q hq=>by simp [hq]) he hdx hne (.inl rfl) hns) ak
end
end DL
namespace DL
open PySem PySem.Spec PyProof.Rows L2
structure XG (K:PySem.W.Frag) (C:Addr):Prop where
 ga:PySem.W.findIn K (.ref C) "__getattribute__"=some (some (.builtin "BaseException.__getattribute__"))
 gh:PySem.W.findIn K (.ref C) "__getattr__"=some none
 be:PySem.W.mroIn K C (.type "BaseException")=some true
 ob:PySem.W.mroIn K C (.type "object")=some true
 hd:PySem.W.hasDictIn K C=true
 cl:PySem.W.findIn K (.ref C) "__class__"=some (some (.builtin "object.__class__"))
 cg:PySem.W.specialIn K (.builtin "object.__class__") "__get__"=some (some (.builtin "getset_descriptor.__get__"))
 ct:PySem.W.takesIn K (.builtin "object.__class__")=some true
section
variable {prog:Program} {w:World} {A:Around} {E:Value→Shared→Prop} {s:Shared} {K:PySem.W.Frag} {x C:Addr} {ox:Obj} {od:Option Obj} {name:Str}
theorem pG {tk:Tok} {v:Value} {Q:Fin→Shared→Prop} (X:K.In s.heap) (I:PySem.W.InstAt s.heap x ox C od) (hf:PySem.W.findObj K C od name=some (.value v)) (h:Q (.done (.ret v)) s) :
  wpAny (model prog w) A (Builtin.«object.__getattribute__» ⟨[.ref x,.str name tk],[]⟩) Q E s:=by
 obtain ⟨hh,g,d,t,os⟩:=s
 have L0:=I.type (M:=model prog w)
 have L1:=PySem.W.looks_find (M:=model prog w) X I hf
 refine wpAny_bind (wpAny_pure (wpAny_bind (wpAny_pure (wpAny_bind (L0.at (wpAny_bind (L1.at ?_)))))))
 exact wpAny_pure h
theorem oU {tk:Tok} {Q:Fin→Shared→Prop} (X:K.In s.heap) (g:XG K C) (I:PySem.W.InstAt s.heap x ox C od) (h:Q (.done (.ret (.ref C))) s) :
  wpAny (model prog w) A (Builtin.«object.__getattribute__» ⟨[.ref x,.str "__class__" tk],[]⟩) Q E s:=by
 have hf:PySem.W.findObj K C od "__class__"=some (.bind (.builtin "getset_descriptor.__get__") (.builtin "object.__class__")):=by
  obtain ⟨cd,hc,_⟩:=PySem.W.any_some g.hd
  unfold PySem.W.findObj
  rw [hc,Option.bind_some,g.cl,Option.bind_some]
  simp [g.cg,g.ct]
 have L0:=I.type (M:=model prog w)
 have L1:=PySem.W.looks_find (M:=model prog w) X I hf
 obtain ⟨hh,gg,d,t,os⟩:=s
 refine wpAny_bind (wpAny_pure (wpAny_bind (wpAny_pure (wpAny_bind (L0.at (wpAny_bind (L1.at ?_)))))))
 show wpAny _ _ (holding [Value.builtin "object.__class__"] (call (.builtin "getset_descriptor.__get__") [.builtin "object.__class__",.ref x,.ref C]) >>= ret) _ _ _
 exact wpAny_bind (wpAny_holding (wpAny_call (PySem.W.class_get (s:=⟨hh,gg,d,t,os⟩) X I g.ob (wpAny_pure h))))
theorem lG {M:Model} {nameV:Value} {Q:Unit→Shared→Prop} (X:K.In s.heap) (g:XG K C) (I:PySem.W.InstAt s.heap x ox C od) (hq:Q () s):wpAny M A (checkBuiltinCall "BaseException.__getattribute__" ⟨[.ref x,nameV],[]⟩) Q E s:=by
 obtain ⟨hh,gg,d,t,os⟩:=s
 have L0:=I.type (M:=M)
 have L3:=PySem.W.looks_mroIn (M:=M) X g.be
 have hk:builtinKind "BaseException.__getattribute__"=some .slot:=by decide +kernel
 have hsplit:splitId "BaseException.__getattribute__"=some ("BaseException","__getattribute__"):=by decide +kernel
 have ha:=PySem.F.args_bexc_ga (.ref x) nameV
 simp only [checkBuiltinCall,hk,hsplit]
 refine wpAny_bind ?_
 unfold isInstance
 repeat (first | (with_reducible refine L0.at ?_) | (with_reducible refine L3.at ?_) | wp_step)
 exact hq
theorem nO {tk:Tok} {v:Value} {fill expr:Bool} {Q:Value→Shared→Prop} (X:K.In s.heap) (g:XG K C) (I:PySem.W.InstAt s.heap x ox C od) (hv:PySem.W.handedIn v=true)
  (body:∀ (A:Around) (E:Value→Shared→Prop) (Q:Fin→Shared→Prop),Q (.done (.ret v)) s→wpAny (model prog w) A (Builtin.«object.__getattribute__» ⟨[.ref x,.str name tk],[]⟩) Q E s) (h:Q v s) :
  wpAny (model prog w) A (getAttrBy (.ref x) (.str name tk) fill expr) Q E s:=by
 obtain ⟨hh,gg,d,t,os⟩:=s
 have L0:=I.type (M:=model prog w)
 have L1:=PySem.W.looks_findIn (M:=model prog w) X g.ga
 have L2:=PySem.W.looks_findIn (M:=model prog w) X g.gh
 have f3:=PySem.F.attrBase_ValueError.ga.bind (.ref x)
 have hx0:(expr && onTheHeap (Value.builtin "BaseException.__getattribute__"))=false:=by cases expr<;>rfl
 have hx2:(Value.builtin "BaseException.__getattribute__" == Value.builtin "object.__getattribute__")=false:=by decide +kernel
 have hx1:(onTheHeap (Value.ref C) && Value.builtin "BaseException.__getattribute__" == Value.builtin "object.__getattribute__")=false:=by rw [hx2];rfl
 repeat (any_goals (first | assumption | (with_reducible refine L0.at ?_) | (with_reducible refine L1.at ?_) | (with_reducible refine L2.at ?_) | wp_step))
 refine codeAny_call_builtin PySem.F.attrBase_ValueError.ga.plain PySem.F.entry_bexc_ga (lG X g I (body _ _ _ ?_))
 show wpAny _ _ (handedOut v) _ _ _
 rw [PySem.W.handedOut_of hv]
 exact wpAny_pure h
theorem xget {v:Value} {expr:Bool} {Q:Value→Shared→Prop} (X:K.In s.heap) (g:XG K C) (I:PySem.W.InstAt s.heap x ox C od) (hv:PySem.W.handedIn v=true)
  (body:∀ (A:Around) (E:Value→Shared→Prop) (Q:Fin→Shared→Prop),Q (.done (.ret v)) { s with toks:=s.toks + 1 }→wpAny (model prog w) A (Builtin.«object.__getattribute__» ⟨[.ref x,.str name s.toks],[]⟩) Q E { s with toks:=s.toks + 1 })
  (h:Q v { s with toks:=s.toks + 1 }):wpAny (model prog w) A (getAttr (.ref x) name expr) Q E s:=by
 unfold getAttr
 exact wpAny_bind (wpAny_mkText (nO (s:={ s with toks:=s.toks + 1 }) X g I hv body h))
theorem xget? {v:Value} {Q:Option Value→Shared→Prop} (X:K.In s.heap) (g:XG K C) (I:PySem.W.InstAt s.heap x ox C od) (hv:PySem.W.handedIn v=true)
  (body:∀ (A:Around) (E:Value→Shared→Prop) (Q:Fin→Shared→Prop),Q (.done (.ret v)) { s with toks:=s.toks + 1 }→wpAny (model prog w) A (Builtin.«object.__getattribute__» ⟨[.ref x,.str name s.toks],[]⟩) Q E { s with toks:=s.toks + 1 })
  (h:Q (some v) { s with toks:=s.toks + 1 }):wpAny (model prog w) A (getAttr? (.ref x) name) Q E s:=by
 unfold getAttr? getAttrBy?
 exact wpAny_bind (wpAny_mkText (wpAny_bind (wpAny_attempt (nO (s:={ s with toks:=s.toks + 1 }) X g I hv body (wpAny_pure h)))))
end
end DL
namespace DL
open PySem PySem.Spec PyProof.Rows L2
theorem pA (n:Nat):∃ h:Heap,h.objs.size=n:=by
 induction n with
 | zero=>exact⟨{ objs:=#[] },rfl⟩
 | succ n ih =>
  obtain ⟨h,e⟩:=ih
  exact⟨h.push { cls:=.type "tuple",data:=.seq #[] },by rw [Heap.size_push,e]⟩
theorem pJ {e C dx C' dx':Addr} (h:XAt e C dx=XAt e C' dx'∨XAt e C dx=XNew e C' dx'):C=C'∧dx=dx':=by
 obtain ⟨g,hg⟩:=pA e
 have q:(g.push (xob C (some dx) .none .none)).get? e=some (xob C (some dx) .none .none):=by
  rw [← hg]
  exact uW g rfl
 have p:∃ a t,(g.push (xob C (some dx) .none .none)).get? e=some (xob C' (some dx') a t):=by
  rcases h with h | h
  ·have z:=congrFun (HO.ext.inj h) (g.push (xob C (some dx) .none .none))
   exact z.mp ⟨_,_,q⟩
  ·have z:=congrFun (HO.ext.inj h) (g.push (xob C (some dx) .none .none))
   obtain ⟨a,r⟩:=z.mp ⟨_,_,q⟩
   exact⟨a,.none,r⟩
 obtain ⟨a,t,r⟩:=p
 rw [q] at r
 have r:=Option.some.inj r
 exact⟨Value.ref.inj (congrArg Obj.cls r),Option.some.inj (congrArg Obj.dict r)⟩
section
variable {K:PySem.W.Frag} {G:Gf} {A:Addr→Prop} {δ:En} {P:List (D×V)} {σ σ':L2.St} {H:Hp} {i j n:Nat} {c f:Str} {d:D} {e:Addr}
theorem Sx.raised (s:Sx K G A δ ((.exn c f d,.ref e) :: P) σ H) (hl:σ'.length=n) (hij:i≠j) (hn:i < n):Sx K G A ((List.replicate n .no).set i (.dat (.exn c f d))) P (((σ'.set j (some (.ref e))).set i (some (.ref e))).set j none) H:=by
 have key:∀ (k:Nat) (y:Sl),y≠.no→((List.replicate n Sl.no).set i (.dat (.exn c f d)))[k]?=some y→i=k∧y=.dat (.exn c f d):=fun k y hy q=>by
  by_cases hk:i=k
  ·subst hk
   rw [List.getElem?_set_self (by simpa using hn)] at q
   exact⟨rfl,(Option.some.inj q).symm⟩
  ·rw [List.getElem?_set_ne hk,List.getElem?_replicate] at q
   split at q
   ·exact absurd (Option.some.inj q).symm hy
   ·cases q
 refine⟨s.old,s.stay,s.m0,s.pm,s.new,s.thr,by simp [hl],fun k d' q=>?_,fun k a d' q=>?_,fun k l a d' e' q _=>?_,fun p hp=>s.pnd p (uB _ hp)⟩
 ·obtain ⟨rfl,z⟩:=key k _ (by simp) q
  cases z
  refine⟨.ref e,?_,s.pnd _ (uF ..)⟩
  rw [List.getElem?_set_ne (Ne.symm hij),List.getElem?_set_self (by simp [hl,hn])]
 ·obtain ⟨_,z⟩:=key k _ (by simp) q
  cases z
 ·obtain ⟨_,z⟩:=key k _ (by simp) q
  cases z
end
def dTry (cs:List Str) (i j:Nat) (tb:TDS):TDS:=fun R δ=>(i < δ.length∧j < δ.length)∧tb { R with ex:=fun c f d=>c∈cs∧R.nx ((List.replicate δ.length .no).set i (.dat (.exn c f d))) } δ
def io (K:PySem.W.Frag) (R:Addr) (cs:List Str):Prop:=∀ c∈cs,∀ C,PySem.W.nsIn K mainGlobals c=some (some (.ref C))→∃ N NR mN mR,∀ h,K.In h→C2 h C N R NR mN mR
section
variable {X:Cx}
theorem tj {R:Addr} {body:List Stmt} {n xR y:Str} {np hpos pos p1 p2 p3:Pos} {tb:TDS} {cs:List Str} (i j:Nat) (hst:X.stack=X.env :: X.outer∧X.env.frame=some X.env.locals) (hN:X.N.Nodup) (hij:i≠j) (hg:Gl X xR) (hm:X.mg xR=some (.ref R)) (hcs:io X.K R cs)
  (hb:∀ (pins:List (Addr×Obj)) (E:Value→Shared→Prop),DSs (X.inTry pins E) body tb) (hj:X.N[j]?=some n:=by rfl) (hk:X.env.scope.names.lookup n=some .local :=by rfl) (hi:X.N[i]?=some y:=by rfl) (hki:X.env.scope.names.lookup y=some .local :=by rfl)
  (hdb:(xR == ("__debug__":Str))=false:=by decide) (hd:(n == ("__debug__":Str))=false:=by decide) (hcd:(n == ("__classdict__":Str))=false:=by decide)
  (hs:∀ A' E',swapsWith (.Name n p2) (some (.Name y p1)) p3.line (X.hdl A' E').env=pure false:=by intro _ _;rfl) :
  DS X (.Try body [.ExceptHandler (some (.Name xR np)) (some n) [.Assign [.Name y p1] (.Name n p2) p3] hpos] [] [] pos) (dTry cs i j tb) :=
 PS.imp (rS (tb:=fun pins E=>upS (X.inTry pins E) tb) hst hN hj hk hg hm hb (fun A' E'=>dn (et (X:=X.hdl A' E') (i:=i) hN hi (.inl hki) (a8 (X:=X.hdl A' E') (i:=j) hj (.inl hk) hd hcd) (hs A' E') (.inr hki))) hdb) fun E σ H hu=>by
  obtain ⟨G,δ,P,R0,s,⟨⟨hiδ,hjδ⟩,h⟩,k1,k2,k3,k4,k5⟩:=hu
  have hlen:δ.length=σ.length:=let ⟨_,x⟩:=s;x.len
  refine⟨fun ev dxo H'=>∃ c f d e C dx δ' σ',ev=.ref e∧dxo=some dx∧c∈cs∧R0.nx ((List.replicate δ.length .no).set i (.dat (.exn c f d)))∧S X.K G δ' ((.exn c f d,.ref e) :: P) σ' H'∧H' e=some (XAt e C dx),?_,?_,?_⟩
  ·rintro e C dx H' hX ⟨c,f,d,e',C',dx',δ',σ',q1,q2,hc,_,⟨A,x⟩,hX'⟩
   cases q1
   cases q2
   have rp:=x.pnd (.exn c f d,.ref e) (uF ..)
   unfold Rep at rp
   obtain ⟨y,xr,_⟩:=rp
   obtain ⟨e2,C2,dx2,q,_,_,ho,_,hns⟩:=xr.ex
   cases q
   have z:=pJ (ho.imp (fun z=>Option.some.inj (hX.symm.trans z)) fun z=>Option.some.inj (hX.symm.trans z))
   rw [z.1]
   exact hcs c hc C2 hns
  ·intro pins E1 hE
   refine⟨G,δ,P,_,s,h,k1,⟨k2.1,k2.2.1,fun c f d hcn e C dx δ' σ' H' s' hX=>?_⟩,k3,k4,k5⟩
   intro e' C' dx' pins' s1 q1 q2 L
   cases q1
   cases q2
   obtain ⟨σ1,a,t,I1,he,ht,hT,hX1⟩:=L.ex
   refine hE _ _ ⟨σ1,H',e,C',dx,a,t,rfl,ko I1,he,ht,fun T z=>?_,hX1,c,f,d,e,C,dx,δ',σ',rfl,rfl,hcn.1,hcn.2,s',hX⟩
   obtain ⟨z1,z2,z3,z4,z5⟩:=hT T z
   exact⟨z1,z2,z3,z4,fun p hp=>z5 p (uI _ hp)⟩
  ·rintro σ' H' e C dx hl hX ⟨c,f,d,e',C',dx',δ',σ'',q1,q2,hc,hn,⟨A,x⟩,hX'⟩
   cases q1
   cases q2
   refine⟨.ref e,?_,?_⟩
   ·rw [List.getElem?_set_self (by rw [hl,← hlen];exact hjδ)]
   ·exact k1 _ hn _ H' ⟨A,x.raised (by rw [hl,hlen]) hij hiδ⟩
end
end DL
namespace DL
open PySem PySem.Spec PyProof.Rows L2
def tFs (te:TE):TE:=fun σ H Q=>te σ H fun v H1=>∃ x,v=.str x∧x.length≤100∧∀ y,Q (.str y) H1
section
variable {X:Cx}
theorem n8 {c:Str} {j} {e:Expr} {p1 p2 pos:Pos} {te:TE} (he:PE X e te) (hc:c.length≤1000:=by decide +kernel):PE X (.JoinedStr [.Constant (.str c) j p1,.FormattedValue e (-1) none p2] pos) (tFs te):=by
 intro pins s σ H Q I h
 have ec:(Str.empty++c).length≤1000:=by rw [strLen_append];exact uD (Nat.le_of_eq (by rw [show Str.empty.length=0 from rfl,Nat.zero_add])) hc
 refine JoinedStr_many (joinParts_cons (thn (jf (x:=c) (j:=j) (pos:=p1) pins s σ H (fun v H1=>v=.str c∧tFs te σ H1 Q) I ⟨rfl,h⟩) fun u s1 hs1=>?_))
 obtain ⟨v,H1,I1,r,rfl,h1⟩:=hs1
 obtain ⟨t,rfl⟩:=r
 refine⟨uD ec (by decide),joinParts_cons (FormattedValue_plain (thn (he pins s1 σ H1 _ I1 h1) fun u2 s2 hs2=>?_))⟩
 obtain ⟨v2,H2,I2,r2,x,rfl,hx,q⟩:=hs2
 obtain ⟨t2,rfl⟩:=r2
 refine formatField_str (fun t' tk=>?_) (uD hx (by decide))
 have e2:(Str.empty++c++x).length≤2000:=by rw [strLen_append];omega
 exact⟨uD e2 (by decide),joinParts_nil ⟨.str _,H2,(I2.tok tk).tok _,⟨_,rfl⟩,q _⟩ (uD e2 (by decide))⟩
end
structure Exc (P:Program) (w:World) (K:PySem.W.Frag) (mg:Str→Option Value) (base:Heap) (k:Nat) (x f:Str) (b:Bool):Prop where
 ex:∃ (C R fI:Addr) (fd:FuncData) (ps:List Str),EK K C R f∧EM K C R fI∧FnOk P w K mg base CX0 k fI fd ps (spI C f b)∧c8 K fd ps []∧mg x=some (.ref C)∧PySem.W.nsIn K mainGlobals x=some (some (.ref C))
section
variable {X:Cx} {pos:Pos} {a:Expr} {ta:TDE} {f:Str} {k:Nat} {x:Str} {p cpos:Pos} {b:Bool}
theorem ds_x (E:Exc X.prog X.w X.K X.mg X.base k x f b) (hr:Room (k + 1) X.A) (hg:Gl X x) (ha:DE X a ta) (hc:X.calm=true:=by rfl)
  (hdb:(x == ("__debug__":Str))=false:=by decide) (he:starEach [a] X.env=(false,eval a X.env) :: starEach [] X.env:=by rfl) (hpl:(backTo cpos (starEach [] X.env)).any (·.1)=false:=by rfl) :
  DS X (.Raise (some (.Call (.Name x p) [a] [] cpos)) none pos) (lc x f b ta):=by
 obtain ⟨C,R,fI,fd,ps,ek,em,F,hb,hm,hns⟩:=E.ex
 exact mQ ek em F hr hg hm hb hns ha hc hdb he hpl
end
def mNs (K:PySem.W.Frag) (N:Addr):Str→Option Value:=fun x=>match K.lookup N with
 | some ⟨_,_,.dict es _,_⟩=>nsFind es x
 | _=>none
theorem gC.ns {K:PySem.W.Frag} {N:Addr} {h:Heap} (q:gC K N=true) (X:K.In h):h.Ns N (mNs K N):=by
 unfold gC at q
 split at q
 ·rename_i c d es n sl e
  refine⟨_,es,n,X _ _ e,rfl,fun en hen=>?_,fun name=>?_⟩
  ·have:=List.all_eq_true.mp q en (by simpa using hen)
   split at this
   ·rename_i y t z
    exact⟨y,t,z⟩
   ·cases this
  ·unfold mNs
   rw [e]
 ·cases q
theorem fj {K:PySem.W.Frag} {N:Addr} {x:Str} {r:Option Value} (q:PySem.W.nsIn K N x=some r):mNs K N x=r:=by
 unfold PySem.W.nsIn at q
 unfold mNs
 split at q
 ·rename_i c d es n sl e
  rw [e]
  show nsFind es x=r
  unfold nsFind findBy
  rw [← Array.find?_toList]
  split at q
  ·rename_i en he
   rw [he]
   cases q
   rfl
  ·rename_i he
   rw [he]
   split at q
   ·cases q
   ·cases q
    rfl
 ·cases q
theorem RcK.rk {K:PySem.W.Frag} {xR:Str} {R NR:Addr} (r:RcK K xR R NR):RK K R:=⟨r.sp,_,r.rd,r.fc⟩
section
variable {K:PySem.W.Frag} {x f xR q:Str} {R NR:Addr} {st:Stmt}
theorem KCls.c2 {C N:Addr} (c:KCls K C N (.ref R :: bmV)) (r:RcK K xR R NR) (ns:gC K N=true):∀ h,K.In h→C2 h C N R NR (mNs K N) (mNs K NR):=fun h X=>by
 obtain ⟨nm,q,bs,sn,sub,ab,col,dd,k0,k1,k2,k3,k5,hC⟩:=c.ex
 obtain ⟨nm',q',bs',sn',sub',ab',col',dd',j0,j1,j2,j3,j5,hR⟩:=r.cl.ex
 exact⟨⟨nm,q,bs,sn,sub,ab,col,dd,k0,k1,k2,k3,k5,X _ _ hC⟩,⟨nm',q',bs',sn',sub',ab',col',dd',j0,j1,j2,j3,j5,X _ _ hR⟩,gC.ns ns X,gC.ns r.ns X,fj r.ini⟩
theorem XcK.exc {P:Program} {w:World} {mg:Str→Option Value} {base h:Heap} {k:Nat} {b:Bool} {ps:List Str} (e:XcK K x f R NR q st) (r:RcK K xR R NR) (X:K.In h) (G:h.Ns mainGlobals mg) (fb:typeLookup (.type "ValueError") f=pure none)
  (hini:∀ (C fI:Addr) (fd:FuncData),Fun K "__init__" q st fI fd→EK K C R f→RK K R→mg xR=some (.ref R)→FnOk P w K mg base CX0 k fI fd ps (spI C f b))
  (hb:∀ (kV doc pm:Value) (an:Option Addr) (cdv ct:Value) (us:List Value),us.length=ps.length→bindArgs (PySem.W.fnOf "__init__" q (ba st) (aM st) (ah st) .none kV doc pm an cdv ct) ⟨us,[]⟩=pure (ps.zip us)) :
  Exc P w K mg base k x f b:=by
 obtain ⟨C,N,fI,h1,h2,h3,h4,h5,h6,h7,h8,od,kV,dc,pm,an,cd,ct,sl,h9,h10,h11⟩:=e.ex
 have F:Fun K "__init__" q st fI (PySem.W.fnOf "__init__" q (ba st) (aM st) (ah st) .none kV dc pm an cd ct):=⟨⟨_,od,kV,dc,pm,an,cd,ct,sl,rfl,h9,h10⟩,h11⟩
 have ek:EK K C R f:=⟨⟨N,NR,mNs K N,mNs K NR,h2.c2 r h3,fj h5,fj r.sa,fj h6,fj h7⟩,fb⟩
 exact⟨C,R,fI,_,ps,ek,⟨⟨N,NR,mNs K N,mNs K NR,h2.c2 r h3,fj h4⟩,h8,_,h9,rfl⟩,hini C fI _ F ek r.rk (PySem.W.mg_of X G r.at_),F.binds hb,PySem.W.mg_of X G h1,h1⟩
theorem XcK.under (e:XcK K x f R NR q st) (r:RcK K xR R NR):io K R [x]:=fun c hc C hC=>by
 obtain ⟨C',N,fI,h1,h2,h3,_⟩:=e.ex
 cases uP.mp hc
 rw [h1] at hC
 cases hC
 exact⟨N,NR,_,_,h2.c2 r h3⟩
theorem io.app {cs ds:List Str} (h:io K R cs) (h':io K R ds):io K R (cs++ds):=fun c hc=>(uJ.mp hc).elim (h c) (h' c)
end
end DL
namespace DL
open PySem PySem.Spec PyProof.Rows L2
theorem xgB.xg {K:PySem.W.Frag} {C:Addr} (h:xgB K C=true):XG K C:=by
 unfold xgB at h
 simp only [Bool.and_eq_true,beq_iff_eq] at h
 obtain ⟨⟨⟨⟨⟨⟨⟨h1,h2⟩,h3⟩,h4⟩,h5⟩,h6⟩,h7⟩,h8⟩:=h
 exact⟨h1,h2,h3,h4,h5,h6,h7,h8⟩
theorem excB.at {K:PySem.W.Frag} {x f:Str} {C:Addr} (h:excB K=true) (hx:(x,f)∈eY) (hC:PySem.W.nsIn K mainGlobals x=some (some (.ref C))) :
  XG K C∧PySem.W.findIn K (.ref C) f=some none∧PySem.W.kitOne K (.ref C) (.type "ValueError")=some true∧PySem.W.kitOne K (.type "NoneType") (.ref C)=some false ∧
   ∀ y g C',(y,g)∈eY→PySem.W.nsIn K mainGlobals y=some (some (.ref C'))→PySem.W.kitOne K (.ref C) (.ref C')=some (x == y):=by
 have q:=List.all_eq_true.mp h (x,f) hx
 simp only [hC,Bool.and_eq_true,beq_iff_eq] at q
 obtain ⟨⟨⟨⟨q1,q2⟩,q3⟩,q4⟩,q5⟩:=q
 refine⟨xgB.xg q1,q2,q3,q4,fun y g C' hy hC'=>?_⟩
 have z:=List.all_eq_true.mp q5 (y,g) hy
 simp only [hC',beq_iff_eq] at z
 exact z
def bK:List Str:=["NoQuotient","NoName","TooMany"]
theorem bf {x:Str} (h:x∈bK):∃ f,(x,f)∈eY:=by
 simp only [bK,uG,List.not_mem_nil,or_false] at h
 rcases h with rfl | rfl | rfl
 ·exact⟨"top",by simp [eY]⟩
 ·exact⟨"name",by simp [eY]⟩
 ·exact⟨"saying",by simp [eY]⟩
def xis (c:Str→Bool):D→Option Bool
 | .exn x _ _=>if bK.contains x then some (c x) else none
 | .non=>some false
 | _=>none
def dIsx (c:Str→Bool) (t:TDE):TDE:=fun δ R=>t δ (wd fun x δ1=>∃ b,xis c x=some b∧R (.d (.bl b)) δ1)
theorem i9 {K:PySem.W.Frag} {e C:Addr} (g:XG K C):PySem.W.KitX K (.ref e) (.ref C) (fun h=>∃ ox od,PySem.W.InstAt h e ox C od) where
 ty:=fun _ _ _ ⟨_,_,I⟩=>I.type
 it:=fun _ _ X _=>by
  obtain ⟨cdD,hcD,_⟩:=PySem.W.any_some g.hd
  unfold PySem.W.clsIn at hcD
  split at hcD
  ·rename_i c' d' cd' sl' ho
   intro A' Q' E' s' k q
   unfold isType loadHead
   exact wpAny_bind (wpAny_loadPart (k _ _ (X _ _ ho)) (wpAny_pure q))
  ·cases hcD
 ne:=fun h tp dd its n sl X htp=>by
  obtain ⟨cdD,hcD,_⟩:=PySem.W.any_some g.hd
  refine Bool.eq_false_iff.mpr fun q=>?_
  have e:C=tp:=Value.ref.inj (beq_iff_eq.mp q)
  subst e
  unfold PySem.W.clsIn at hcD
  split at hcD
  ·rename_i c' d' cd' sl' ho
   have z:=(X _ _ ho).symm.trans htp
   cases z
  ·cases hcD
 ca:=fun {prog w A E Q s} X ⟨ox,od,I⟩ k=>xget? X g I rfl (fun A E Q h=>oU (s:={ s with toks:=s.toks + 1 }) X g I h) k
section
variable {X:Cx} {pins:List (Addr×Obj)} {σ:L2.St} {H:Hp} {s:Shared} {M:Addr→Prop} {d:D} {v y:V} {u:Value} {c f:Str} {A:Around} {E:Value→Shared→Prop}
theorem ed (I:L2.Inv X pins σ H s) (r:XRep X.K M H c f v y):∃ e C ox od,v=.ref e∧PySem.W.nsIn X.K mainGlobals c=some (some (.ref C))∧PySem.W.InstAt s.heap e ox C (some od)∧∃ u,PySem.W.lookIn f od=some (some u)∧RelV y u:=by
 obtain ⟨e,C,dx,rfl,_,_,h1,h2,h3⟩:=r.ex
 have ho:∃ a t,s.heap.get? e=some (xob C (some dx) a t):=by
  rcases h1 with h1 | h1
  ·exact (I.hok e _ h1).1
  ·obtain ⟨a,q⟩:=(I.hok e _ h1).1
   exact⟨a,.none,q⟩
 obtain ⟨a,t,ho⟩:=ho
 obtain ⟨mA,ns,rel⟩:=I.hok dx _ h2
 obtain ⟨od,hod,hl⟩:=gE ns
 have rf:=rel f
 simp only [List.lookup,beq_self_eq_true] at rf
 obtain ⟨u,hu,ru⟩:=RelO.some_of (v:=y) (o:=mA f) rf
 exact⟨e,C,_,od,rfl,h3,⟨ho,rfl,rfl,hod⟩,u,by rw [hl,hu],ru⟩
theorem kY {k:Str→Bool} {cv:Value} {b:Bool} {Q:Value→Shared→Prop} (tab:excB X.K=true) (I:L2.Inv X pins σ H s) (r:Rep X.K M H d v) (ru:RelV v u) (hb:xis k d=some b)
  (h1:∀ x∈bK,∀ C,PySem.W.nsIn X.K mainGlobals x=some (some (.ref C))→PySem.W.kitOne X.K (.ref C) cv=some (k x)) (h2:PySem.W.kitOne X.K (.type "NoneType") cv=some false) (h:∀ tk,Q (.bool b) { s with toks:=tk }) :
  wpAny (model X.prog X.w) A (call (.builtin "isinstance") [u,cv]) Q E s:=by
 unfold xis at hb
 split at hb
 ·rename_i x f x'
  split at hb
  ·rename_i hx
   cases hb
   have hx:x∈bK:=by simpa using hx
   unfold Rep at r
   obtain ⟨y,xr,_⟩:=r
   obtain ⟨e,C,ox,od,rfl,hns,J,_⟩:=ed I xr
   cases ru
   obtain ⟨f',hf⟩:=bf hx
   exact PySem.W.kia_one (i9 (excB.at tab hf hns).1) I.kIn ⟨_,_,J⟩ (h1 x hx C hns) (fun z=>nomatch z) h
  ·cases hb
 ·cases hb
  unfold Rep at r
  subst r
  cases ru
  exact PySem.W.kia_one PySem.W.kitx_none I.kIn True.intro h2 (fun z=>nomatch z) h
 ·cases hb
theorem o5 {k:Str→Bool} {c1 c2:Value} {b:Bool} {tp:Addr} {dd:Option Addr} {n:Nat} {sl:Array (Option Value)} {Q:Value→Shared→Prop} (tab:excB X.K=true) (I:L2.Inv X pins σ H s) (r:Rep X.K M H d v) (ru:RelV v u) (hb:xis k d=some b)
  (htp:s.heap.get? tp=some ⟨.type "tuple",dd,.seq ([c1,c2]:List Value).toArray n,sl⟩)
  (h1:∀ x∈bK,∀ C,PySem.W.nsIn X.K mainGlobals x=some (some (.ref C))→PySem.W.kitAny X.K (.ref C) [c1,c2]=some (k x)) (h2:PySem.W.kitAny X.K (.type "NoneType") [c1,c2]=some false) (h:∀ tk,Q (.bool b) { s with toks:=tk }) :
  wpAny (model X.prog X.w) A (call (.builtin "isinstance") [u,.ref tp]) Q E s:=by
 unfold xis at hb
 split at hb
 ·rename_i x f x'
  split at hb
  ·rename_i hx
   cases hb
   have hx:x∈bK:=by simpa using hx
   unfold Rep at r
   obtain ⟨y,xr,_⟩:=r
   obtain ⟨e,C,ox,od,rfl,hns,J,_⟩:=ed I xr
   cases ru
   obtain ⟨f',hf⟩:=bf hx
   exact PySem.W.kia_tup (i9 (excB.at tab hf hns).1) I.kIn ⟨_,_,J⟩ htp (h1 x hx C hns) (fun z=>nomatch z) h
  ·cases hb
 ·cases hb
  unfold Rep at r
  subst r
  cases ru
  exact PySem.W.kia_tup PySem.W.kitx_none I.kIn True.intro htp h2 (fun z=>nomatch z) h
 ·cases hb
end
section
variable {X:Cx} {a:Expr} {ta:TDE} {p p2 p3 p4 pos:Pos}
def rIsx (K:PySem.W.Frag) (c:Str→Bool) (T:V→Hp→Prop):List V→Hp→VK→Prop:=fun vs H Q=>∃ x y M d b,vs=[x,y]∧T y H∧Rep K M H d x∧xis c d=some b∧Q (.bl b) H
theorem rX (K:PySem.W.Frag):PySem.W.kitOne K (.type "NoneType") (.type "ValueError")=some false:=by with_unfolding_all rfl
theorem gz:bootBuiltins "ValueError"=some (.type "ValueError"):=by decide +kernel
theorem oq (tab:excB X.K=true) (hg:Gl X "isinstance") (hm:X.mg "isinstance"=none) (hgT:Gl X "ValueError") (hmT:X.mg "ValueError"=none) (ha:DE X a ta)
  (he:starEach [a,.Name "ValueError" p2] X.env=(false,eval a X.env) :: starEach [.Name "ValueError" p2] X.env:=by rfl) (he2:starEach [.Name "ValueError" p2] X.env=(false,eval (.Name "ValueError" p2) X.env) :: starEach [] X.env:=by rfl)
  (hpl:(backTo pos (starEach [.Name "ValueError" p2] X.env)).any (·.1)=false:=by rfl) :
  DE X (.Call (.Name "isinstance" p) [a,.Name "ValueError" p2] [] pos) (dIsx (fun _=>true) ta):=by
 have cr:bx X (.builtin "isinstance") (rIsx X.K (fun _=>true) fun y _=>y=.ty "ValueError"):=by
  intro pins s σ H xs us Q I r h
  obtain ⟨x,y,M,d,b,rfl,rfl,rx,hb,q⟩:=h
  obtain ⟨u,w',rfl,ru,rw'⟩:=ki r
  cases rw'
  exact kY tab I rx ru hb (fun x hx C hC=>let ⟨f,hf⟩:=bf hx;(excB.at tab hf hC).2.2.1) (rX _) fun tk=>⟨.bl _,H,I.tok _,rfl,q⟩
 exact PE.imp (cI cr hg hm bN (aI ha (aI (kK (v:=.ty "ValueError") hgT hmT gz rfl) bS he2) he) (by decide) (by decide) he hpl) fun σ H Q ⟨G,δ,P,R,s,h,k,_⟩=>up.mk s h fun d δ1 h1 v H1 s1=>by
  obtain ⟨A,q⟩:=id s1
  obtain ⟨b,hb,hR⟩:=h1
  exact⟨v,_,_,d,b,rfl,rfl,q.pnd (d,v) (by simp),hb,k _ δ1 hR _ H1 ((s1.sub (P':=P) fun p hp=>uB _ hp).sc rfl)⟩
structure XAd (K:PySem.W.Frag) (mg:Str→Option Value) (x:Str) (C:Addr):Prop where
 mg:mg x=some (.ref C)
 ns:PySem.W.nsIn K mainGlobals x=some (some (.ref C))
 mem:x∈bK
theorem oQ {y:Str} (tab:excB X.K=true) (hg:Gl X "isinstance") (hm:X.mg "isinstance"=none) (hgT:Gl X y) (hC:∃ C,XAd X.K X.mg y C) (ha:DE X a ta) (hdT:(y == ("__debug__":Str))=false:=by decide)
  (he:starEach [a,.Name y p2] X.env=(false,eval a X.env) :: starEach [.Name y p2] X.env:=by rfl) (he2:starEach [.Name y p2] X.env=(false,eval (.Name y p2) X.env) :: starEach [] X.env:=by rfl) (hpl:(backTo pos (starEach [.Name y p2] X.env)).any (·.1)=false:=by rfl) :
  DE X (.Call (.Name "isinstance" p) [a,.Name y p2] [] pos) (dIsx (fun x=>x == y) ta):=by
 obtain ⟨C,hC⟩:=hC
 have cr:bx X (.builtin "isinstance") (rIsx X.K (fun x=>x == y) fun z _=>z=.ref C):=by
  intro pins s σ H xs us Q I r h
  obtain ⟨x,z,M,d,b,rfl,rfl,rx,hb,q⟩:=h
  obtain ⟨u,w',rfl,ru,rw'⟩:=ki r
  cases rw'
  obtain ⟨g,hg⟩:=bf hC.mem
  exact kY tab I rx ru hb (fun x hx C' hC'=>let ⟨f,hf⟩:=bf hx;(excB.at tab hf hC').2.2.2.2 y g C hg hC.ns) (excB.at tab hg hC.ns).2.2.2.1 fun tk=>⟨.bl _,H,I.tok _,rfl,q⟩
 exact PE.imp (cI cr hg hm bN (aI ha (aI (eJ (v:=.ref C) hgT hC.mg rfl hdT) bS he2) he) (by decide) (by decide) he hpl) fun σ H Q ⟨G,δ,P,R,s,h,k,_⟩=>up.mk s h fun d δ1 h1 v H1 s1=>by
  obtain ⟨A,q⟩:=id s1
  obtain ⟨b,hb,hR⟩:=h1
  exact⟨v,_,_,d,b,rfl,rfl,q.pnd (d,v) (by simp),hb,k _ δ1 hR _ H1 ((s1.sub (P':=P) fun p hp=>uB _ hp).sc rfl)⟩
theorem lM {K:PySem.W.Frag} {t c1 c2:Value} {b1 b2:Bool} (h1:PySem.W.kitOne K t c1=some b1) (h2:PySem.W.kitOne K t c2=some b2):PySem.W.kitAny K t [c1,c2]=some (b1 || b2):=by
 unfold PySem.W.kitAny
 rw [h1]
 cases b1 with
 | true=>rfl
 | false =>
  show PySem.W.kitAny K t [c2]=_
  unfold PySem.W.kitAny
  rw [h2]
  cases b2<;>rfl
theorem oO {y z:Str} {kt} (tab:excB X.K=true) (hg:Gl X "isinstance") (hm:X.mg "isinstance"=none) (hgy:Gl X y) (hgz:Gl X z) (hC:∃ C,XAd X.K X.mg y C) (hC':∃ C,XAd X.K X.mg z C) (ha:DE X a ta) (hdy:(y == ("__debug__":Str))=false:=by decide) (hdz:(z == ("__debug__":Str))=false:=by decide)
  (he:starEach [a,.Tuple [.Name y p2,.Name z p3] kt p4] X.env=(false,eval a X.env) :: starEach [.Tuple [.Name y p2,.Name z p3] kt p4] X.env:=by rfl)
  (he2:starEach [.Tuple [.Name y p2,.Name z p3] kt p4] X.env=(false,eval (.Tuple [.Name y p2,.Name z p3] kt p4) X.env) :: starEach [] X.env:=by rfl) (hpl:(backTo pos (starEach [.Tuple [.Name y p2,.Name z p3] kt p4] X.env)).any (·.1)=false:=by rfl)
  (he3:starEach [.Name y p2,.Name z p3] X.env=(false,eval (.Name y p2) X.env) :: starEach [.Name z p3] X.env:=by rfl) (he4:starEach [.Name z p3] X.env=(false,eval (.Name z p3) X.env) :: starEach [] X.env:=by rfl) :
  DE X (.Call (.Name "isinstance" p) [a,.Tuple [.Name y p2,.Name z p3] kt p4] [] pos) (dIsx (fun x=>x == y || x == z) ta):=by
 obtain ⟨C,hC⟩:=hC
 obtain ⟨C',hC'⟩:=hC'
 have cr:bx X (.builtin "isinstance") (rIsx X.K (fun x=>x == y || x == z) fun t H=>∃ tp,t=.ref tp∧H tp=some (.tup [.ref C,.ref C'])):=by
  intro pins s σ H xs us Q I r h
  obtain ⟨x,t,M,d,b,rfl,⟨tp,rfl,htp⟩,rx,hb,q⟩:=h
  obtain ⟨u,w',rfl,ru,rw'⟩:=ki r
  cases rw'
  obtain ⟨_,its,vs,o,ho,hc,n,hd⟩:=(show bq X.prog X.w H s.heap tp (.tup [.ref C,.ref C']) from I.hok tp _ htp)
  obtain ⟨g,hg⟩:=bf hC.mem
  obtain ⟨g',hg'⟩:=bf hC'.mem
  have hits:its=[.ref C,.ref C']:=by
   cases vs with
   | cons r0 vs =>
    cases vs with
    | cons r1 vs =>
     cases vs
     cases r0
     cases r1
     rfl
  subst hits
  obtain ⟨cls,dct,dat,sl⟩:=o
  cases hc
  cases hd
  exact o5 tab I rx ru hb ho (fun x hx C'' hC''=>let ⟨f,hf⟩:=bf hx;lM ((excB.at tab hf hC'').2.2.2.2 y g C hg hC.ns) ((excB.at tab hf hC'').2.2.2.2 z g' C' hg' hC'.ns)) (lM (excB.at tab hg hC.ns).2.2.2.1 (excB.at tab hg' hC'.ns).2.2.2.1) fun tk=>⟨.bl _,H,I.tok _,rfl,q⟩
 exact PE.imp (cI cr hg hm bN (aI ha (aI (nT (aI (eJ (v:=.ref C) hgy hC.mg rfl hdy) (aI (eJ (v:=.ref C') hgz hC'.mg rfl hdz) bS he4) he3)) bS he2) he) (by decide) (by decide) he hpl) fun σ H Q ⟨G,δ,P,R,s,h,k,_⟩=>up.mk s h fun d δ1 h1 v H1 s1=>by
  refine⟨by show 2≤sizeLine;decide,fun tp htp=>?_⟩
  obtain ⟨b,hb,hR⟩:=h1
  obtain ⟨A,x⟩:=s1
  have x2:=x.same (al htp (.tup [.ref C,.ref C']))
  exact⟨v,_,_,d,b,rfl,⟨tp,rfl,ak⟩,x2.pnd (d,v) (by simp),hb,k _ δ1 hR _ _ (S.sc (S.sub ⟨A,x2⟩ (P':=P) fun p hp=>uB _ hp) rfl)⟩
def tXf (K:PySem.W.Frag) (f:Str) (ta:TE):TE:=fun σ H Q=>ta σ H fun v H1=>∃ M c y,XRep K M H1 c f v y∧(c,f)∈eY∧Q y H1
theorem t8 {f:Str} {e:Expr} {te:TE} (tab:excB X.K=true) (he:PE X e te) (hb:attributeBase e f X.env (eval e X.env)=eval e X.env):PE X (.Attribute e f pos) (tXf X.K f te):=by
 intro pins s σ H Q I h
 refine oC hb (thn (he pins s σ H _ I h) fun u s1 hs1=>?_)
 obtain ⟨v,H1,I1,r,M,c,y,xr,hc,q⟩:=hs1
 obtain ⟨e,C,ox,od,rfl,hns,J,u',hl,ru⟩:=ed I1 xr
 cases r
 obtain ⟨g,hf,_⟩:=excB.at tab hc hns
 refine xget I1.kIn g J (lP ru) (fun A E Q h=>pG (s:={ s1 with toks:=s1.toks + 1 }) I1.kIn J (PySem.W.findObj_own g.hd hf rfl hl) h) ?_
 exact⟨y,H1,I1.tok _,ru,q⟩
def dXf (f:Str) (t:TDE):TDE:=fun δ R=>t δ (wd fun x δ1=>∃ c d,x=.exn c f d∧(c,f)∈eY∧R (.d d) δ1)
theorem ux {f:Str} (tab:excB X.K=true) (ha:DE X a ta) (hb:attributeBase a f X.env (eval a X.env)=eval a X.env:=by rfl):DE X (.Attribute a f pos) (dXf f ta) :=
 PE.imp (t8 tab ha hb) fun σ H Q ⟨G,δ,P,R,s,h,k,_⟩=>up.mk s h fun x δ1 h1 v H1 s1=>by
  obtain ⟨c,d,rfl,hc,hR⟩:=h1
  obtain ⟨A,x⟩:=s1
  have rp:=x.pnd (.exn c f d,v) (by simp)
  unfold Rep at rp
  obtain ⟨y,xr,ry⟩:=rp
  exact⟨_,c,y,xr,hc,k _ δ1 hR y H1 ⟨A,(x.sub (P':=P) fun p hp=>uB _ hp).push ry⟩⟩
end
section
variable {X:Cx} {pins:List (Addr×Obj)} {σ:L2.St} {H:Hp} {s:Shared} {R NR:Addr} {xR:Str} {Q:VK} {a:Expr} {ta:TDE} {p p2 p3 p4 pos cpos:Pos}
end
end DL
namespace DL
open PySem PySem.Spec PyProof.Rows L2
structure Er (P:Program) (w:World) (K:PySem.W.Frag) (mg:Str→Option Value) (base:Heap) (R NR:Addr):Prop where
 rc:RcK K "RowError" R NR
 mR:mg "RowError"=some (.ref R)
 gR:XG K R
 kR:PySem.W.kitOne K (.ref R) (.type "ValueError")=some true
 tab:excB K=true
 un:io K R bK
 q:Exc P w K mg base 1 "NoQuotient" "top" false
 n:Exc P w K mg base 1 "NoName" "name" true
 t:Exc P w K mg base 1 "TooMany" "saying" false
 aq:∃ C,XAd K mg "NoQuotient" C
 an:∃ C,XAd K mg "NoName" C
 a_t:∃ C,XAd K mg "TooMany" C
abbrev j9 (P:Program) (w:World) (K:PySem.W.Frag) (mg:Str→Option Value) (base:Heap) (q p f:Str) (b:Bool) (st:Stmt):Prop :=
 ∀ (R C fI:Addr) (fd:FuncData),Fun K "__init__" q st fI fd→EK K C R f→RK K R→mg "RowError"=some (.ref R)→FnOk P w K mg base CX0 1 fI fd ["self",p] (spI C f b)
abbrev IniB (q p:Str) (st:Stmt):Prop:=∀ (kV doc pm:Value) (an:Option Addr) (cdv ct:Value) (us:List Value),us.length=2→bindArgs (PySem.W.fnOf "__init__" q (ba st) (aM st) (ah st) .none kV doc pm an cdv ct) ⟨us,[]⟩=pure ((["self",p]:List Str).zip us)
theorem rC:typeLookup (.type "ValueError") "top"=pure none:=by rw [typeLookup_type,builtinLookup_eq_fast];kernel_rfl
theorem pe:typeLookup (.type "ValueError") "name"=pure none:=by rw [typeLookup_type,builtinLookup_eq_fast];kernel_rfl
theorem kU:typeLookup (.type "ValueError") "saying"=pure none:=by rw [typeLookup_type,builtinLookup_eq_fast];kernel_rfl
theorem XcK.ad {K:PySem.W.Frag} {x f q:Str} {R NR:Addr} {st:Stmt} {h:Heap} {mg:Str→Option Value} (e:XcK K x f R NR q st) (X:K.In h) (G:h.Ns mainGlobals mg) (hx:x∈bK):∃ C,XAd K mg x C:=by
 obtain ⟨C,N,fI,h1,_⟩:=e.ex
 exact⟨C,PySem.W.mg_of X G h1,h1,hx⟩
theorem ErF.er {P:Program} {w:World} {K:PySem.W.Frag} {mg:Str→Option Value} {base h:Heap} {s1 s2 s3:Stmt} (e:ErF K s1 s2 s3) (X:K.In h) (G:h.Ns mainGlobals mg)
  (i1:j9 P w K mg base "NoQuotient.__init__" "top" "top" false s1) (b1:IniB "NoQuotient.__init__" "top" s1) (i2:j9 P w K mg base "NoName.__init__" "name" "name" true s2) (b2:IniB "NoName.__init__" "name" s2)
  (i3:j9 P w K mg base "TooMany.__init__" "saying" "saying" false s3) (b3:IniB "TooMany.__init__" "saying" s3):∃ R NR,Er P w K mg base R NR:=by
 obtain ⟨R,NR,rc,gR,kR,tab,x1,x2,x3⟩:=e.ex
 refine⟨R,NR,rc,PySem.W.mg_of X G rc.at_,xgB.xg gR,kR,tab,(x1.under rc).app ((x2.under rc).app (x3.under rc)),x1.exc rc X G rC (i1 R) b1,x2.exc rc X G pe (i2 R) b2,x3.exc rc X G kU (i3 R) b3,x1.ad X G ?_,x2.ad X G ?_,x3.ad X G ?_⟩<;>decide
theorem iP {C:Addr} {f p:Str} {b:Bool}:∀ vs H Q E,spI C f b vs H Q E→vs.length=(["self",p]:List Str).length:=fun vs H Q E ⟨e,y,h,_⟩=>by rw [h];rfl
theorem lR {C:Addr} {f p:Str} {b:Bool} {x:V} {vs:List V} {H:Hp} {Q:VK} {E:XK} (h:spI C f b vs H Q E) :
  tSeq (jF (qG C (lK (tVar 0) (lK (tC x) tNil)))) (qq C f (tVar 0) (tVar 1)) { nx:=fun _ H'=>Q .non H',rt:=Q } (start ["self",p] vs) H:=by
 obtain ⟨e,y,rfl,_,hX,h⟩:=h
 exact⟨.ref e,rfl,e,x,rfl,hX,y,rfl,.ref e,rfl,e,rfl,hX,h⟩
theorem ms {C:Addr} {f p:Str} {vs:List V} {H:Hp} {Q:VK} {E:XK} (h:spI C f true vs H Q E) :
  tSeq (jF (qG C (lK (tVar 0) (lK (tFs (tVar 1)) tNil)))) (qq C f (tVar 0) (tVar 1)) { nx:=fun _ H'=>Q .non H',rt:=Q } (start ["self",p] vs) H:=by
 obtain ⟨e,y,rfl,⟨t,rfl,ht⟩,hX,h⟩:=h
 exact⟨.ref e,rfl,.str t,rfl,t,rfl,ht,fun z=>⟨e,.str z,rfl,hX,.str t,rfl,.ref e,rfl,e,rfl,hX,h⟩⟩
theorem CalE.pure {P:Program} {w:World} {K:PySem.W.Frag} {mg:Str→Option Value} {base:Heap} {k:Nat} {x:Str} {ps:List Str} {f:FE} (C:CalE P w K mg base k x ps f):Cal P w K mg base k x ps (spD K fun ds R=>f ds R fun _ _ _=>False):=by
 obtain ⟨a,fd,F,b,kp,m⟩:=C.ex
 refine⟨a,fd,⟨fun vs H Q E h=>?_,fun A outer s H args us vs Q E hr he hb hv h=>?_⟩,b,kp,m⟩
 ·obtain ⟨M,ds,R,m,rs,h,k⟩:=h
  exact F.len vs H Q (fun _ _ _=>False) ⟨M,ds,R,fun _ _ _=>False,m,rs,h,k,fun _ _ _ z=>z.elim⟩
 ·obtain ⟨M,ds,R,m,rs,h,k⟩:=h
  refine codeAny_mono (F.run A outer s H args us vs Q (fun _ _ _=>False) hr he hb hv ⟨M,ds,R,fun _ _ _=>False,m,rs,h,k,fun _ _ _ z=>z.elim⟩) fun r s' q=>?_
  cases r with
  | error e =>
   obtain ⟨_,_,_,_,_,_,_,_,_,_,_,_,_,_,_,z⟩:=q
   exact z.elim
  | ok fl=>cases fl<;>exact q
theorem k9 {P:Program} {w:World} {K:PySem.W.Frag} {mg:Str→Option Value} {base:Heap} {x:Str} {st:Stmt} {ps:List Str} {f:FE} (F:Fd K mg x st ps) (k:Nat) (h:∀ ds R RE,¬ f ds R RE):CalE P w K mg base k x ps f:=by
 obtain ⟨a,fd,Fu,b,m⟩:=F.ex
 have no:∀ vs H Q E,¬ spE K f vs H Q E:=fun vs H Q E ⟨_,ds,R,RE,_,_,hf,_,_⟩=>h ds R RE hf
 exact⟨a,fd,⟨fun vs H Q E h=>absurd h (no vs H Q E),fun A outer s H args us vs Q E _ _ _ _ h=>absurd h (no vs H Q E)⟩,b,Fu.kp,m⟩
theorem DE.nox {X:Cx} {e:Expr} {t:TDE} (h:DE X.nox e t):DE X e t:=PE.nox h
end DL
namespace DL
open PySem PySem.Spec PyProof.Rows L2
def e5:En→Bool
 | []=>true
 | .own _ _ :: _=>false
 | .dat _ :: r=>e5 r
 | .no :: r=>e5 r
theorem e5.at:∀ {δ:En} (i:Nat) (a:Addr) (d:D),e5 δ=true→δ[i]?≠some (.own a d)
 | [],i,a,d,_,e=>by simp at e
 | .own _ _ :: _,i,a,d,h,_=>by cases h
 | .dat _ :: r,i,a,d,h,e=>by
  cases i with
  | zero=>simp at e
  | succ i=>exact e5.at (δ:=r) i a d h (by simpa using e)
 | .no :: r,i,a,d,h,e=>by
  cases i with
  | zero=>simp at e
  | succ i=>exact e5.at (δ:=r) i a d h (by simpa using e)
section
variable {K:PySem.W.Frag} {G:Gf} {A:Addr→Prop} {δ:En} {P:List (D×V)} {σ:L2.St} {H H2:Hp}
theorem Sx.hide {i:Nat} {v:Option V} (s:Sx K G A δ P σ H):Sx K G A (δ.set i .no) P (σ.set i v) H:=by
 have key:∀ {k:Nat} {y:Sl},y≠.no→(δ.set i .no)[k]?=some y→k≠i∧δ[k]?=some y:=fun {k y} hy q=>by
  by_cases z:k=i
  ·subst z
   by_cases hl:k < δ.length
   ·rw [List.getElem?_set_self hl] at q;exact absurd (Option.some.inj q).symm hy
   ·rw [List.getElem?_eq_none (by rw [List.length_set];omega)] at q;cases q
  ·rw [List.getElem?_set_ne (Ne.symm z)] at q;exact⟨z,q⟩
 refine⟨s.old,s.stay,s.m0,s.pm,s.new,s.thr,by rw [List.length_set,List.length_set,s.len],fun k d q=>?_,fun k a d q=>?_,fun k l a d e q1 q2=>?_,s.pnd⟩
 ·obtain ⟨z,q⟩:=key (y:=.dat d) (fun h=>nomatch h) q
  obtain ⟨v,h1,h2⟩:=s.dat k d q
  exact⟨v,by rw [List.getElem?_set_ne (Ne.symm z)];exact h1,h2⟩
 ·obtain ⟨z,q⟩:=key (y:=.own a d) (fun h=>nomatch h) q
  obtain ⟨h1,h2⟩:=s.own k a d q
  exact⟨by rw [List.getElem?_set_ne (Ne.symm z)];exact h1,h2⟩
 ·exact s.inj k l a d e (key (y:=.own a d) (fun h=>nomatch h) q1).2 (key (y:=.own a e) (fun h=>nomatch h) q2).2
theorem Sx.fork (s:Sx K G A δ P σ H) (h:Same H H2) (n:e5 δ=true):Sx K ⟨fun b=>G.M0 b∨A b,H2,fun _=>False⟩ (fun _=>False) δ P σ H2:=by
 have x:=s.same h
 have rp:∀ d v,Rep K (fun b=>G.M0 b∨A b) H2 d v→Rep K (fun b=>(G.M0 b∨A b)∨False) H2 d v:=fun d v r=>Rep.more (fun b z=>.inl (z.elim id False.elim)) _ _ r
 exact⟨fun b o e _=>e,fun b e=>e,fun b z=>x.mem b z,fun b z=>z.elim,fun b z=>z.elim,fun b z=>z.elim,x.len,fun i d e=>let ⟨v,q,r⟩:=x.dat i d e;⟨v,q,rp _ _ r⟩,fun i a d e=>absurd e (e5.at i a d n),fun i j a d e q _=>absurd q (e5.at i a d n),fun p hp=>rp _ _ (x.pnd p hp)⟩
end
def dScr (i j:Nat) (f:List D→(D→Prop)→Prop) (ta:TDA) (t5 t6:TDT) (t:TDS):TDS:=fun R δ=>ta δ fun ds δ1=>e5 δ1=true∧D.ims ds=true∧(i < δ1.length∧j < δ1.length)∧f ds fun d=>(∃ dss:List (List D),d=.lst (dss.map D.lst)) ∧
 t5 (δ1.set i (.dat d)) fun b δ2=>b=false∧t6 δ2 fun b _=>b=false∧t R ((δ1.set i .no).set j .no)
def iR (H1 H:Hp) (N:Nat) (a:Addr):Prop:=H1 a=none∧∃ ws,H a=some (.lst ws)∧ws.length≤N∧∀ u∈ws,∃ b xs,u=.ref b∧H1 b=none∧H b=some (.lst xs)
theorem iR.clear {H1 H:Hp} {N:Nat} {a b:Addr} {xs:List V} (h:iR H1 H N a) (hb:H b=some (.lst xs)):iR H1 (upd H b (.lst [])) N a:=by
 obtain ⟨h1,ws,h2,h3,h4⟩:=h
 by_cases z:a=b
 ·subst z
  exact⟨h1,[],ak,Nat.zero_le _,fun u hu=>nomatch hu⟩
 ·refine⟨h1,ws,by rw [ap z];exact h2,h3,fun u hu=>?_⟩
  obtain ⟨c,ys,rfl,q1,q2⟩:=h4 u hu
  by_cases zc:c=b
  ·subst zc
   exact⟨c,[],rfl,q1,ak⟩
  ·exact⟨c,ys,rfl,q1,by rw [ap zc];exact q2⟩
theorem ft {H1 H:Hp} {b:Addr} {o:HO} (h:Same H1 H) (hb:H1 b=none):Same H1 (upd H b o):=fun c u hc=>by
 rw [ap (fun z=>by rw [z,hb] at hc;cases hc)]
 exact h c u hc
theorem mY {K:PySem.W.Frag} {H1 H:Hp} {dss:List (List D)} {v:V} (h:Rep K (fun b=>H1 b≠none) H (.lst (dss.map D.lst)) v):∃ a,v=.ref a∧iR H1 H dss.length a:=by
 unfold Rep at h
 obtain ⟨a,vs,rfl,n,e,r⟩:=h
 refine⟨a,rfl,Classical.not_not.mp n,vs,e,by rw [← Reps.length _ _ r,uA];exact Nat.le_refl _,fun u hu=>?_⟩
 obtain ⟨k,hk,e2⟩:=List.getElem_of_mem hu
 have hk2:k < dss.length:=by have:=Reps.length _ _ r;rw [uA] at this;omega
 obtain ⟨v',q1,q2⟩:=Reps.get _ _ r k (D.lst dss[k]) (by simp [hk2])
 rw [uZ hk] at q1
 cases q1
 rw [e2] at q2
 unfold Rep at q2
 obtain ⟨b,ws,q3,q4,q5,_⟩:=q2
 exact⟨b,ws,q3,Classical.not_not.mp q4,q5⟩
section
variable {X:Cx} {i j:Nat}
theorem n5 (i j:Nat) {x y:Str} {c5 c6:Expr} {a:Expr} {es:List Expr} {aa5 aa6 rest:List Stmt} {fx:Str} {k:Nat} {ps:List Str} {f:List D→(D→Prop)→Prop} {ta:TDA} {t5 t6:TDT} {t:TDS} {p cpos p1 p2 p5 p6 p7 p8 p9 p10 p11 p12 p13 p14 p15 p16 p17:Pos} (hp:PassesOwn (model X.prog X.w) X.A X.env X.xe) (hc:X.calm=true) (hN:X.N.Nodup) (hij:i≠j)
  (C:Cal X.prog X.w X.K X.mg X.base k fx ps (spD X.K f)) (hr:Room k X.A) (hg:Gl X fx) (ha:DA X (a :: es) ta) (h5:DT X c5 t5) (h6:DT X c6 t6) (h:DSs X rest t)
  (hi:X.N[i]?=some x:=by rfl) (hj:X.N[j]?=some y:=by rfl) (hx:X.env.scope.names.lookup x=some .local :=by rfl) (hy:X.env.scope.names.lookup y=some .local :=by rfl)
  (hdb:(fx == ("__debug__":Str))=false:=by decide) (he:starEach (a :: es) X.env=(false,eval a X.env) :: starEach es X.env:=by rfl) (hpl:(backTo cpos (starEach es X.env)).any (·.1)=false:=by rfl)
  (hdx:(x == ("__debug__":Str))=false:=by decide) (hcx:(x == ("__classdict__":Str))=false:=by decide) (hdy:(y == ("__debug__":Str))=false:=by decide) (hcy:(y == ("__classdict__":Str))=false:=by decide)
  (hs:swapsWith (.Call (.Name fx p) (a :: es) [] cpos) (some (.Name x p1)) p2.line X.env=pure false:=by rfl)
  (hb1:attributeBase (.Name y p7) "clear" X.env (eval (.Name y p7) X.env)=eval (.Name y p7) X.env:=by rfl) (hl1:(p8.endLine == p9.line)=true:=by rfl) (hs1:swapsWith (.Call (.Attribute (.Name y p7) "clear" p8) [] [] p9) none p10.line X.env=pure false:=by rfl)
  (hb2:attributeBase (.Name x p13) "clear" X.env (eval (.Name x p13) X.env)=eval (.Name x p13) X.env:=by rfl) (hl2:(p14.endLine == p15.line)=true:=by rfl) (hs2:swapsWith (.Call (.Attribute (.Name x p13) "clear" p14) [] [] p15) none p16.line X.env=pure false:=by rfl)
  (hf:∀ z,foldedSetIterable (.Name x p11) X.env z=pure z:=by intro _;rfl) :
  DSs X (.Assign [.Name x p1] (.Call (.Name fx p) (a :: es) [] cpos) p2 :: .If c5 aa5 [] p5 :: .If c6 aa6 [] p6 :: .For (.Name y p12) (.Name x p11) [.Expr (.Call (.Attribute (.Name y p7) "clear" p8) [] [] p9) p10] [] p17 :: .Expr (.Call (.Attribute (.Name x p13) "clear" p14) [] [] p15) p16 :: rest) (dScr i j f ta t5 t6 t):=by
 obtain ⟨g,fd,F,b,kp,m⟩:=C.ex
 have vx:∀ {q:Pos},PE X (.Name x q) (tVar i):=fun {q}=>a8 hi (.inl hx) hdx hcx
 have vy:∀ {q:Pos},PE X (.Name y q) (tVar j):=fun {q}=>a8 hj (.inl hy) hdy hcy
 have s4:=et (pos:=p2) (pos':=p1) hN hi (.inl hx) (eI F hr hg m kp b .nil (E:=fun _ _ _=>False) (by intro _ _ _ _ _ _ _ z;exact z.elim) ha hdb he hpl) hs (.inr hx)
 have s5:=qv (pos:=p5) h5 (gj (X:=X) (sts:=aa5)) gZ
 have s6:=qv (pos:=p6) h6 (gj (X:=X) (sts:=aa6)) gZ
 have s7:=ku (tg:=.Name y p12) (pos:=p17) hp hc (iq (vx (q:=p11))) (kI hN hj (.inl hy) (.inr hy)) (dn (cY (pos:=p10) (lq PySem.F.plainAttrs_list PySem.F.slot_list_clear PySem.F.type_list_clear jj (vy (q:=p7)) hb1 hl1) hs1)) hf
 have s8:=cY (pos:=p16) (lq PySem.F.plainAttrs_list PySem.F.slot_list_clear PySem.F.type_list_clear jj (vx (q:=p13)) hb2 hl2) hs2
 refine PSs.imp (bG s4 (bG s5 (bG s6 (bG s7 (bG s8 h))))) fun E σ H hu=>?_
 obtain ⟨G,δ,P,R,s,hh,kk⟩:=hu
 refine⟨G,δ,P,_,s,hh,fun ds δ1 h1 vs H1 hl st=>?_⟩
 obtain ⟨hno,him,⟨hiδ,hjδ⟩,hf1⟩:=h1
 obtain ⟨A,x0⟩:=st
 rw [List.append_nil]
 have rs:Reps X.K (fun b=>H1 b≠none) H1 ds vs:=Reps.im _ _ him (x0.reps ds vs hl fun q hq=>uI _ hq)
 refine⟨fun b=>H1 b≠none,ds,_,fun b z=>z,rs,hf1,fun d hd v H2 sm rp=>?_⟩
 obtain ⟨⟨dss,rfl⟩,hd⟩:=hd
 obtain ⟨la,rfl,ll⟩:=mY rp
 have x1:Sx X.K G A δ1 P σ H1:=x0.sub fun q hq=>uH _ hq
 have lσ:δ1.length=σ.length:=x1.len
 have x2:=x1.fork sm hno
 have rp2:Rep X.K (fun b=>(G.M0 b∨A b)∨False) H2 (.lst (dss.map D.lst)) (.ref la):=Rep.more (fun b z=>.inl (z.elim (fun z=>x1.mem b z) False.elim)) _ _ rp
 have x3:S X.K ⟨fun b=>G.M0 b∨A b,H2,fun _=>False⟩ (δ1.set i (.dat (.lst (dss.map D.lst)))) P (σ.set i (some (.ref la))) H2:=⟨_,(x2.push rp2).set (P':=P) (uF ..) fun q hq=>uB _ hq⟩
 show tIfS (upT X.K t5) _ _ _ (σ.set i (some (.ref la))) H2
 refine⟨_,_,P,_,x3,hd,fun b5 δ5 h5 H5 x5=>?_⟩
 obtain ⟨rfl,h5⟩:=h5
 show tIfS (upT X.K t6) _ _ _ (σ.set i (some (.ref la))) H5
 refine⟨_,_,P,_,x5,h5,fun b6 δ6 h6 H6 x6=>?_⟩
 obtain ⟨rfl,h6⟩:=h6
 obtain ⟨A6,x6⟩:=x6
 have sm6:Same H1 H6:=fun b o e=>x6.old b o (sm b o e) id
 have ll6:iR H1 H6 dss.length la:=by
  obtain ⟨q1,ws,q2,q3,q4⟩:=ll
  refine⟨q1,ws,x6.old _ _ q2 id,q3,fun u hu=>?_⟩
  obtain ⟨b,xs,z1,z2,z3⟩:=q4 u hu
  exact⟨b,xs,z1,z2,x6.old _ _ z3 id⟩
 have gi:(σ.set i (some (V.ref la)))[i]?=some (some (.ref la)):=List.getElem?_set_self (by omega)
 show tFor (qN X.K (tVar i)) (ot j) (jF (tBM0 X.K "list" jd (tVar j))) _ (σ.set i (some (.ref la))) H6
 refine⟨.ref la,gi,la,rfl,?_,fun n m σ' H'=>m=dss.length - n∧(σ'=σ.set i (some (.ref la))∨∃ z,σ'=(σ.set i (some (.ref la))).set j (some z))∧Same H1 H'∧iR H1 H' dss.length la,⟨_,rfl,.inl rfl,sm6,ll6⟩,?_⟩
 ·obtain ⟨_,ws,q,_⟩:=ll6
  exact⟨ws,SqL.of q⟩
 rintro n m σ' H' ⟨rfl,hσ,sm',ll'⟩
 have gi':σ'[i]?=some (some (.ref la)):=by
  rcases hσ with rfl | ⟨z,rfl⟩
  ·exact gi
  ·rw [List.getElem?_set_ne (Ne.symm hij)];exact gi
 obtain ⟨q1,ws,q2,q3,q4⟩:=id ll'
 by_cases hn:n < ws.length
 ·obtain ⟨b,xs,z1,z2,z3⟩:=q4 ws[n] (List.getElem_mem hn)
  refine .inr ⟨⟨ws,ws[n],SqL.of q2,uZ hn⟩,fun σ' H'=>(σ'=σ.set i (some (.ref la))∨∃ z,σ'=(σ.set i (some (.ref la))).set j (some z))∧Same H1 H'∧iR H1 H' dss.length la,fun σ2 H2 q=>⟨dss.length - (n + 1),by omega,rfl,q⟩,fun u H3 hu=>?_⟩
  obtain ⟨rfl,hu⟩:=hu
  have e:=(hu ws (SqL.of q2)).symm.trans (uZ hn)
  cases e
  rw [z1]
  show jF (tBM0 X.K "list" jd (tVar j)) _ (σ'.set j (some (.ref b))) H3
  have lj:j < σ'.length:=by
   rcases hσ with rfl | ⟨z,rfl⟩
   ·rw [List.length_set];omega
   ·rw [List.length_set,List.length_set];omega
  refine⟨.ref b,List.getElem?_set_self lj,.inl ⟨rfl,xs,SqL.of z3⟩,b,xs,rfl,rfl,z3,?_,ft sm' z2,ll'.clear z3⟩
  rcases hσ with rfl | ⟨z,rfl⟩
  ·exact .inr ⟨_,rfl⟩
  ·exact .inr ⟨_,by rw [List.set_set]⟩
 ·refine .inl ⟨⟨ws,SqL.of q2,by omega⟩,?_⟩
  show jF (tBM0 X.K "list" jd (tVar i)) _ σ' H'
  refine⟨.ref la,gi',.inl ⟨rfl,ws,SqL.of q2⟩,la,ws,rfl,rfl,q2,?_⟩
  have sm9:=ft (o:=.lst []) sm' q1
  refine⟨G,_,P,R,⟨A,?_⟩,h6,kk⟩
  have y:=(x1.same sm9)
  rcases hσ with rfl | ⟨z,rfl⟩
  ·have w:=(y.hide (i:=i) (v:=some (.ref la))).hide (i:=j) (v:=(σ.set i (some (.ref la)))[j]?.getD none)
   rwa [show (σ.set i (some (V.ref la))).set j ((σ.set i (some (V.ref la)))[j]?.getD none)=σ.set i (some (.ref la)) from by
    have hjl:j < (σ.set i (some (V.ref la))).length:=by rw [List.length_set];omega
    rw [uZ hjl,Option.getD_some,List.set_getElem_self]] at w
  ·exact (y.hide (i:=i) (v:=some (.ref la))).hide (i:=j) (v:=some z)
end
end DL
namespace Lw
open PySem L2 DL
variable {P:Program} {w:World} {K:PySem.W.Frag} {mg:Str→Option Value} {base:Heap}
open Mf
theorem sq_t {xs:List D}:sq true xs=.lst xs:=rfl
theorem sq_f {xs:List D}:sq false xs=.tup xs:=rfl
theorem aY {α β γ:Type} (f:β→Option γ) (g:α→β) (h:α→γ):∀ (l:List α),(∀ x∈l,f (g x)=some (h x))→(l.map g).filterMap f=l.map h
 | [],_=>rfl
 | x :: l,e=>by rw [List.map_cons,List.map_cons,List.filterMap_cons,e x (uF ..),aY f g h l fun y hy=>e y (uB _ hy)]
theorem ifn {c A B:Prop} [Decidable c] (hc:¬ c) (h:B):if c then A else B:=by rw [if_neg hc];exact h
theorem ifp {c A B:Prop} [Decidable c] (hc:c) (h:A):if c then A else B:=by rw [if_pos hc];exact h
theorem at0 {α:Type} {x:α} {xs:List α}:atI (x :: xs) 0=some x:=by
 unfold atI ixN
 simp only [uM]
 rw [if_pos (by omega),if_pos (by omega)]
 rfl
theorem at1 {α:Type} {x y:α} {xs:List α}:atI (x :: y :: xs) 1=some y:=by
 unfold atI ixN
 simp only [uM]
 rw [if_pos (by omega),if_pos (by omega)]
 rfl
theorem at2 {α:Type} {x y z:α} {xs:List α}:atI (x :: y :: z :: xs) 2=some z:=by
 unfold atI ixN
 simp only [uM]
 rw [if_pos (by omega),if_pos (by omega)]
 rfl
theorem atm1 {α:Type} {x:α} {xs:List α}:atI (xs++[x]) (-1)=some x:=fH xs x
theorem kE {i j:Int} {R:D→Prop}:kz [.int i,.int j] R↔R (.int (i + j)):=Iff.rfl
theorem lQ {xs ys:List D} {R:D→Prop}:kz [.lst xs,.lst ys] R↔xs.length + ys.length≤9000∧R (.lst (xs++ys)):=Iff.rfl
theorem mV {xs:List D} {R:D→Prop}:fLen [.lst xs] R↔R (.int xs.length):=Iff.rfl
theorem qk {xs:List D} {R:D→Prop}:fLen [.fz xs] R↔R (.int xs.length):=Iff.rfl
theorem m3 {xs:List D} {R:D→Prop}:fLen [.tup xs] R↔R (.int xs.length):=Iff.rfl
theorem md {i:Int} {R:D→Prop}:fInt [.int i] R↔R (.int i):=Iff.rfl
theorem qf {b:Bool} {R:D→Prop}:fInt [.bl b] R↔R (.int (if b then 1 else 0)):=Iff.rfl
theorem oV {xs:List D} {i:Int} {R:D→Prop}:fIx [.tup xs,.int i] R↔∃ v,atI xs i=some v∧R v:=Iff.rfl
theorem n9 {xs:List D} {i:Int} {R:D→Prop}:fIx [.lst xs,.int i] R↔∃ v,atI xs i=some v∧R v:=Iff.rfl
theorem sZ {xs:List D} {i:Int} {R:D→Prop}:fIx [.fz xs,.int i] R↔∃ v,atI xs i=some v∧R v:=Iff.rfl
theorem qE {z:Str} {i:Int} {R:D→Prop}:fIx [.str z,.int i] R↔z.length≤9000∧∃ c,atI z.cps.toList i=some c∧R (.str ⟨#[c]⟩):=Iff.rfl
theorem o6 {xs:List D} {l u:Option Int} {R:D→Prop}:fSl (.lst xs) l u R↔R (.lst (cut xs l u)):=Iff.rfl
theorem rQ {xs:List D} {l u:Option Int} {R:D→Prop}:fSl (.fz xs) l u R↔R (.lst (cut xs l u)):=Iff.rfl
theorem Nat.cast_ofNat_Int {n:Nat}:((OfNat.ofNat n:Nat):Int)=OfNat.ofNat n:=rfl
theorem jB:isT "int" (tyN .non)=false:=rfl
theorem kD {b:Bool}:isT "int" (tyN (.bl b))=true:=rfl
theorem jS {i:Int}:isT "int" (tyN (.int i))=true:=rfl
theorem jL {x:Str}:isT "int" (tyN (.str x))=false:=rfl
theorem j7 {xs:List D}:isT "int" (tyN (.tup xs))=false:=rfl
theorem j6 {xs:List D}:isT "int" (tyN (.lst xs))=false:=rfl
theorem lU {xs:List D}:isT "int" (tyN (.fz xs))=false:=rfl
theorem j8 {ks:List Str} {vs:List D}:isT "int" (tyN (.dct ks vs))=false:=rfl
theorem g8:isT "bool" (tyN .non)=false:=rfl
theorem j4 {b:Bool}:isT "bool" (tyN (.bl b))=true:=rfl
theorem ik {i:Int}:isT "bool" (tyN (.int i))=false:=rfl
theorem ip {x:Str}:isT "bool" (tyN (.str x))=false:=rfl
theorem iN {xs:List D}:isT "bool" (tyN (.tup xs))=false:=rfl
theorem g9 {xs:List D}:isT "bool" (tyN (.lst xs))=false:=rfl
theorem jD {xs:List D}:isT "bool" (tyN (.fz xs))=false:=rfl
theorem g4 {ks:List Str} {vs:List D}:isT "bool" (tyN (.dct ks vs))=false:=rfl
theorem gp:isT "tuple" (tyN .non)=false:=rfl
theorem g7 {b:Bool}:isT "tuple" (tyN (.bl b))=false:=rfl
theorem gk {i:Int}:isT "tuple" (tyN (.int i))=false:=rfl
theorem gn {x:Str}:isT "tuple" (tyN (.str x))=false:=rfl
theorem gB {xs:List D}:isT "tuple" (tyN (.tup xs))=true:=rfl
theorem gt {xs:List D}:isT "tuple" (tyN (.lst xs))=false:=rfl
theorem ir {xs:List D}:isT "tuple" (tyN (.fz xs))=false:=rfl
theorem gN {ks:List Str} {vs:List D}:isT "tuple" (tyN (.dct ks vs))=false:=rfl
theorem ig:isT "list" (tyN .non)=false:=rfl
theorem jq {b:Bool}:isT "list" (tyN (.bl b))=false:=rfl
theorem iB {i:Int}:isT "list" (tyN (.int i))=false:=rfl
theorem g5 {x:Str}:isT "list" (tyN (.str x))=false:=rfl
theorem iL {xs:List D}:isT "list" (tyN (.tup xs))=false:=rfl
theorem iU {xs:List D}:isT "list" (tyN (.lst xs))=true:=rfl
theorem jJ {xs:List D}:isT "list" (tyN (.fz xs))=true:=rfl
theorem iI {ks:List Str} {vs:List D}:isT "list" (tyN (.dct ks vs))=false:=rfl
theorem jp:isT "str" (tyN .non)=false:=rfl
theorem k6 {b:Bool}:isT "str" (tyN (.bl b))=false:=rfl
theorem jo {i:Int}:isT "str" (tyN (.int i))=false:=rfl
theorem jV {x:Str}:isT "str" (tyN (.str x))=true:=rfl
theorem jO {xs:List D}:isT "str" (tyN (.tup xs))=false:=rfl
theorem jr {xs:List D}:isT "str" (tyN (.lst xs))=false:=rfl
theorem lJ {xs:List D}:isT "str" (tyN (.fz xs))=false:=rfl
theorem jv {ks:List Str} {vs:List D}:isT "str" (tyN (.dct ks vs))=false:=rfl
theorem iA:isT "dict" (tyN .non)=false:=rfl
theorem jT {b:Bool}:isT "dict" (tyN (.bl b))=false:=rfl
theorem gT {i:Int}:isT "dict" (tyN (.int i))=false:=rfl
theorem iO {x:Str}:isT "dict" (tyN (.str x))=false:=rfl
theorem gS {xs:List D}:isT "dict" (tyN (.tup xs))=false:=rfl
theorem iK {xs:List D}:isT "dict" (tyN (.lst xs))=false:=rfl
theorem ka {xs:List D}:isT "dict" (tyN (.fz xs))=false:=rfl
theorem iT {ks:List Str} {vs:List D}:isT "dict" (tyN (.dct ks vs))=true:=rfl
theorem lZ {xs ys:List D} {R:D→Prop}:kz [.tup xs,.tup ys] R↔xs≠[]∧ys≠[]∧xs.length + ys.length≤9000∧R (.tup (xs++ys)):=Iff.rfl
theorem pp {xs:List D} {l u:Option Int} {R:D→Prop}:fSl (.tup xs) l u R↔¬ (HT.sIx xs.length 0 l=0∧HT.sIx xs.length xs.length u=xs.length)∧R (.tup (cut xs l u)):=Iff.rfl
theorem pC {R:D→Prop}:fIs [.non,.non] R↔R (.bl true):=Iff.rfl
theorem oE {c f:Str} {d:D} {R:D→Prop}:fIs [.exn c f d,.non] R↔R (.bl false):=Iff.rfl
theorem oh {xs:List D} {R:D→Prop}:fIs [.tup xs,.non] R↔R (.bl false):=Iff.rfl
theorem kb {ks:List Str} {vs:List D}:isT "int" (tyN (.fd ks vs))=false:=rfl
theorem jP {ks:List Str} {vs:List D}:isT "bool" (tyN (.fd ks vs))=false:=rfl
theorem iy {ks:List Str} {vs:List D}:isT "tuple" (tyN (.fd ks vs))=false:=rfl
theorem jU {ks:List Str} {vs:List D}:isT "list" (tyN (.fd ks vs))=false:=rfl
theorem ls {ks:List Str} {vs:List D}:isT "str" (tyN (.fd ks vs))=false:=rfl
theorem jy {ks:List Str} {vs:List D}:isT "dict" (tyN (.fd ks vs))=true:=rfl
local macro_rules | `(tactic| walk_at "rd") => `(tactic| try simp only [dTry, dIsx, lc, dXf, rK, sr, nY, pdB, D.exn.injEq, D.noX, mf, jn, lZ, pp, pC, oh, oE, kb, jP, iy, jU, ls, jy, ne_eq, List.cons_ne_nil, sq_t, sq_f, tD, rL, qI, sC, nk, rE, lT, Sl.own.injEq, exists_const, exists_eq, D.lst.injEq, D.dct.injEq, D.str.injEq, dSeq, dIf, dRet, dSet, dV, dC, dOp, dUn, wd, dTst, dAnd, dOr, dNot, sO, dOrV, rJ, dIfE, nA, sT, jQ, dTup, dLst, sg, dAsg, nV, rN, nq, tF, qW, rg, mx, mH, dSl, ky, qL, dIsi, rZ, tQ, uk, pZ, qd, qU, pU, mD, sV, kE, lQ, mV, qk, m3, md, qf, oV, n9, sZ, qE, o6, rQ, mX, qH, mP, ma, dPop, mh, qF, qg, iH, iE, jA, jx, r8, sW, tG, sh, allT, okT, capL, capO, oS, cn, jB, kD, jS, jL, j7, j6, lU, j8, g8, j4, ik, ip, iN, g9, jD, g4, gp, g7, gk, gn, gB, gt, ir, gN, ig, jq, iB, g5, iL, iU, jJ, iI, jp, k6, jo, jV, jO, jr, lJ, jv, iA, jT, gT, iO, gS, iK, ka, iT, List.map_cons, List.map_nil, uM, List.length_nil, List.replicate, List.cons_append, List.nil_append, List.append_nil, List.getElem?_cons_zero, List.getElem?_cons_succ, List.set_cons_zero, List.set_cons_succ, Option.some.injEq, Sl.dat.injEq, D.int.injEq, D.bl.injEq, D.tup.injEq, List.cons.injEq, and_assoc, and_true, true_and, exists_eq_left', exists_eq_left, exists_eq_right', exists_and_left, Nat.zero_add, Nat.reduceAdd, Nat.reduceSub, Nat.add_zero, Nat.reduceLeDiff, Nat.sub_self, at0, at1, at2, atm1, if_true, if_false, ite_true, ite_false, Int.reduceEq, Int.reduceLT, Nat.cast_ofNat_Int, not_true_eq_false, not_false_eq_true, Bool.false_eq_true, reduceCtorEq, Bool.not_false, Bool.not_true, List.forall_mem_cons, uG, List.not_mem_nil, forall_const, false_implies, implies_true, Nat.reduceLT, if_pos, List.filterMap_cons, List.filterMap_nil, decide_eq_true_eq, Bool.not_eq_true', decide_eq_false_iff_not])
structure jI (a b:Int):Prop where
 a0:0≤a
 b0:0≤b
 ab:Builtin.Int.intBits a≤1048576
 bb:Builtin.Int.intBits b≤1048576
inductive cD (ds:List D) (R:D→Prop):Prop
 | mk (c:_) (hh:ds=[.int c]∧Builtin.Int.intBits c≤1048576∧∀ a b,jI a b→R (.lst [.int a,.int b]))
theorem dQ:∀ ds R,cD ds R→ds.length=1:=fun _ _ ⟨_,e,_⟩=>by rw [e];rfl
theorem cnz {i j:Int} (h:j≠0):CNz i j:=h
theorem tS {b:Int} {n:Nat} (h:Builtin.Int.intBits b≤n) (hn:n≤8000):b.natAbs.log2 < 9000:=by
 have h1:=intBits_le_iff.mp h
 rcases Nat.eq_zero_or_pos b.natAbs with h0 | hp
 ·rw [h0];decide
 ·have h2:b.natAbs.log2 < n:=(Nat.log2_lt (Nat.ne_of_gt hp)).mpr h1
  omega
theorem mo2 {x y:Int} {m n:Nat} (h1:Builtin.Int.intBits x≤m) (h2:Builtin.Int.intBits y≤n) (h:m + n≤134217728:=by decide):IntMulOk x y:=IntMulOk.of_le h1 h2 h
theorem sm64 {x:Int} (h0:0≤x) (h1:x < 18446744073709551616):Builtin.Int.intBits x≤64:=intBits_le_64 (by omega) (by omega)
theorem a7:ar ["_law_cell_here","_law_number","_law_found","_law_k"] ["_law_cell_here"] (ah s__law_purse):=⟨rfl,rfl,rfl,by decide +kernel,rfl,by decide +kernel,by decide +kernel⟩
theorem e7 (F:Fd K mg "_law_purse" s__law_purse ["_law_cell_here"]) (dm:mg "range"=none) (qh:mg "abs"=none):Cal P w K mg base 1 "_law_purse" ["_law_cell_here"] (spN K cD):=by
 refine fn_N F a7 dQ fun fa cdv A outer s H E ds R hr h=>?_
 have hU:=hr.units
 refine⟨_,(ag (aD 1 a7.nd (au cx (de_v 0) ae)) (ag (aD 2 a7.nd ae) (ag (qe PassesOwn.never rfl rfl dm (ac ae af) (aG 3 a7.nd) (ag (aD 1 a7.nd (au cx (au aX (au aX (au aX (au dY (de_v 1) (de_v 1)) (au dY (au dY ae (de_v 3)) (de_v 3))) (de_v 3)) ae) ae)) (aj (aD 2 a7.nd (au aX (au dY (de_v 2) ae) (au cx (au dY (de_v 1) (de_v 1)) ae)))))) (ag (bC (aO (o_eq hU) (au cx (de_v 0) ae) ae (aw _)) (aj (lI (ac (au dI (aV uz rfl qh ua (ac (de_v 0) af)) ae) (ac (de_v 2) af)))) aE) (aj (lI (ac ae (ac (de_v 2) af)))))))),?_⟩
 obtain ⟨c,rfl,hc,q⟩:=h
 walk_at "rd"
 refine⟨cnz (by decide),?_⟩
 simp only [tE]
 walk_at "rd"
 have n0:=Int.fmod_nonneg_of_pos c (b:=2147483647) (by decide)
 have n1:=Int.fmod_lt_of_pos c (b:=2147483647) (by decide)
 refine⟨by decide,by decide,fun i δ=>∃ n f k,δ=[.dat (.int c),.dat (.int n),.dat (.int f),k]∧i≤16∧0≤n∧n < 2147483648∧0≤f∧Builtin.Int.intBits f≤40 * (i + 1),⟨_,_,_,rfl,by decide,n0,by omega,by decide,by decide⟩,?_,?_⟩
 ·rintro i δ hi ⟨n,f,k,rfl,_,hn0,hn1,hf0,hf1⟩
  have hi':i < 16:=hi
  walk_at "rd"
  have bi:Builtin.Int.intBits (i:Int)≤64:=sm64 (by omega) (by omega)
  have bn:Builtin.Int.intBits n≤64:=sm64 hn0 (by omega)
  have z0:=Int.fmod_nonneg_of_pos (n * n + 48271 * (i:Int) * i + i + 3) (b:=2147483629) (by decide)
  have z1:=Int.fmod_lt_of_pos (n * n + 48271 * (i:Int) * i + i + 3) (b:=2147483629) (by decide)
  generalize (n * n + 48271 * (i:Int) * i + i + 3).fmod 2147483629=z at z0 z1 ⊢
  have bz:Builtin.Int.intBits z≤64:=sm64 z0 (by omega)
  have y0:=Int.fmod_nonneg_of_pos (z * z) (b:=2147483587) (by decide)
  have y1:=Int.fmod_lt_of_pos (z * z) (b:=2147483587) (by decide)
  have by31:Builtin.Int.intBits ((z * z).fmod 2147483587)≤31:=intBits_le_iff.mpr (by rw [show (2:Nat) ^ 31=2147483648 from rfl];omega)
  have fm:=Int.mul_nonneg hf0 (show (0:Int)≤2147483587 by decide)
  refine⟨mo2 bn bn,IntMulOk.of_left (by decide),IntMulOk.of_right bi,cnz (by decide),IntMulOk.of_right (by decide),mo2 bz bz,cnz (by decide),by omega,z0,by omega,by omega,?_⟩
  have h1:=intBits_add_le (intBits_mul_le hf1 (show Builtin.Int.intBits 2147483587≤31 by decide)) by31
  omega
 ·rintro δ ⟨n,f,k,rfl,_,hn0,hn1,hf0,hf1⟩
  walk_at "rd"
  have hf1:Builtin.Int.intBits f≤1048576:=uD hf1 (by decide)
  refine⟨cnz (by decide),ite2 (fun _=>⟨⟨by decide,by decide +kernel⟩,?_⟩) (fun _=>?_)⟩
  ·have ha:0≤(if c < 0 then -c else c):=by split<;>omega
   have hb:Builtin.Int.intBits (if c < 0 then -c else c)≤1048576:=by
    split
    ·exact intBits_neg_le hc
    ·exact hc
   exact q _ _ ⟨by rw [Int.fdiv_eq_ediv_of_nonneg _ (by decide)];exact Int.ediv_nonneg ha (by decide),hf0,intBits_fdiv_le hb,hf1⟩
  ·exact q _ _ ⟨Int.le_refl 0,hf0,by decide,hf1⟩
inductive bX (d:D) (ds:List D) (R:D→D→Prop):Prop
 | mk (a b m:_) (hh:d=.lst [.int a,.int b]∧ds=[.int m]∧jI a b∧0 < m∧Builtin.Int.intBits m≤8000∧∀ a' b' r,jI a' b'→0≤r→r < m→R (.int r) (.lst [.int a',.int b']))
theorem eo:∀ d ds R,bX d ds R→ds.length + 1=2:=fun _ _ _ ⟨_,_,_,_,e,_⟩=>by rw [e];rfl
theorem kM {a m:Int} (ha:0≤a) (hm:0 < m):0≤a.fdiv m:=by rw [Int.fdiv_eq_ediv_of_nonneg _ (by omega)];exact Int.ediv_nonneg ha (by omega)
theorem cu:ar ["_law_purse_here","_law_many","_law_at","_law_found"] ["_law_purse_here","_law_many"] (ah s__law_take):=⟨rfl,rfl,rfl,by decide +kernel,rfl,by decide +kernel,by decide +kernel⟩
theorem fG (F:Fd K mg "_law_take" s__law_take ["_law_purse_here","_law_many"]) (jG:mg "int"=none):Cal P w K mg base 1 "_law_take" ["_law_purse_here","_law_many"] (spO K bX):=by
 refine fn_O F cu eo fun fa cdv A outer s H E oa d0 ds R hr h=>?_
 have hU:=hr.units
 refine⟨_,(ag (aD 2 cu.nd (di sj rfl jG tz (ac (cp (o_eq hU) (eG 0 ae (fun _ _=>rfl)) ae (aw _)) af))) (ag (aD 3 cu.nd (au cx (eG 0 (de_v 2) (fun _ _=>rfl)) (de_v 1))) (ag (fF 0 (au dI (eG 0 (de_v 2) (fun _ _=>rfl)) (de_v 1)) (de_v 2)) (aj (av (de_v 3)))))),?_⟩
 obtain ⟨a,b,m,rfl,rfl,pu,hm,bm,q⟩:=h
 walk_at "rd"
 have cf:∀ x:Int,CFd x m:=fun x=>⟨by omega,tS bm (Nat.le_refl _)⟩
 have m0:∀ x:Int,CNz x m:=fun x=>cnz (by omega)
 by_cases ha:a=0
 ·simp only [if_pos ha]
  refine⟨_,at1,?_⟩
  walk_at "rd"
  refine⟨m0 b,cf b,1,rfl,?_⟩
  exact q _ _ _ ⟨pu.a0,kM pu.b0 hm,pu.ab,intBits_fdiv_le pu.bb⟩ (Int.fmod_nonneg_of_pos _ hm) (Int.fmod_lt_of_pos _ hm)
 ·simp only [if_neg ha]
  refine⟨_,at0,?_⟩
  walk_at "rd"
  refine⟨m0 a,cf a,0,rfl,?_⟩
  exact q _ _ _ ⟨kM pu.a0 hm,pu.b0,intBits_fdiv_le pu.ab,pu.bb⟩ (Int.fmod_nonneg_of_pos _ hm) (Int.fmod_lt_of_pos _ hm)
inductive cc (d:D) (ds:List D) (R:D→D→Prop):Prop
 | mk (a b:_) (hh:d=.lst [.int a,.int b]∧ds=[]∧jI a b∧∀ a' b' r,jI a' b'→Builtin.Int.intBits r≤200→R (.int r) (.lst [.int a',.int b']))
theorem dF:∀ d ds R,cc d ds R→ds.length + 1=1:=fun _ _ _ ⟨_,_,_,e,_⟩=>by rw [e];rfl
theorem m5 {α:Type} {xs:List α} {k:Int} (h0:0≤k) (h:k < xs.length):∃ x∈xs,atI xs k=some x:=by
 unfold atI ixN
 rw [if_pos h0,if_pos h]
 have:k.toNat < xs.length:=by omega
 exact⟨xs[k.toNat],List.getElem_mem _,by show xs[k.toNat]?=_;rw [uZ this]⟩
theorem nM:CPow 10 59:=⟨by decide,by decide,by decide⟩
theorem eW:ar ["_law_purse_here"] ["_law_purse_here"] (ah s__law_weight):=⟨rfl,rfl,rfl,by decide +kernel,rfl,by decide +kernel,by decide +kernel⟩
theorem eN (F:Fd K mg "_law_weight" s__law_weight ["_law_purse_here"]) (a4:Cal P w K mg base 1 "_law_take" ["_law_purse_here","_law_many"] (spO K (bX))):Cal P w K mg base 2 "_law_weight" ["_law_purse_here"] (spO K cc):=by
 refine fn_O F eW dF fun fa cdv A outer s H E oa d0 ds R hr h=>?_
 have hU:=hr.units
 refine⟨_,(ag (bC (aO o_lt (cG 0 a4 (rm hr) rfl (ac ae af)) ae (aw _)) (aj (av (ao am (aQ (ac ae (ac ae (ac (cZ cM ae) (ac ae (ac (cZ cM ae) (ac ae (ac (cZ cM ae) (ac ae (ac ae (ac ae af))))))))))) (cG 0 a4 (rm hr) rfl (ac ae af)) (fun _ _=>rfl)))) aE) (aj (av (au pY (cG 0 a4 (rm hr) rfl (ac (au aX (au dY ae (au qR ae ae)) ae) af)) (au qR ae ae))))),?_⟩
 obtain ⟨a,b,rfl,rfl,pu,q⟩:=h
 walk_at "rd"
 refine⟨a,b,6,rfl,rfl,pu,by decide,by decide,fun a1 b1 r pu1 r0 r1=>?_⟩
 walk_at "rd"
 refine ite2 (fun c=>?_) (fun c=>?_)
 ·refine⟨a1,b1,10,rfl,rfl,pu1,by decide,by decide,fun a2 b2 r2 pu2 s0 s1=>?_⟩
  walk_at "rd"
  obtain ⟨x,hx,e⟩:=m5 (xs:=[D.int 0,D.int 1,D.int (-1),D.int 2,D.int (-2),D.int 3,D.int (-3),D.int 0,D.int 5,D.int 0]) s0 (by show r2 < 10;exact s1)
  refine⟨x,e,?_⟩
  simp only [uG,List.not_mem_nil,or_false] at hx
  rcases hx with rfl | rfl | rfl | rfl | rfl | rfl | rfl | rfl | rfl | rfl<;>exact q _ _ _ pu2 (by decide)
 ·have e59:(10:Int) ^ Int.toNat 59=100000000000000000000000000000000000000000000000000000000000:=by decide +kernel
  rw [e59]
  refine⟨nM,IntMulOk.of_left (by decide),a1,b1,_,rfl,rfl,pu1,by decide,intBits_le_iff.mpr (Nat.lt_of_lt_of_le (by decide +kernel:(2 * 100000000000000000000000000000000000000000000000000000000000 + 1:Int).natAbs < 2 ^ 200) (Nat.pow_le_pow_right (by decide) (by decide))),fun a2 b2 r2 pu2 s0 s1=>?_⟩
  walk_at "rd"
  refine⟨nM,q _ _ _ pu2 (intBits_le_iff.mpr ?_)⟩
  rw [show (2:Nat) ^ 200=1606938044258990275541962092341162602522202993782792835301376 by decide +kernel]
  omega
structure t7 (names:List Str):Prop where
 nd:names.Nodup
 len:names.length≤4
 pos:0 < names.length
 srt:Srt names
def ltr (i:Int):Str:=⟨#[97 + i.toNat]⟩
theorem sy:∀ i:Fin 26,atI (PySem.Str.cps "abcdefghijklmnopqrstuvwxyz").toList (i.val:Int)=some (97 + i.val):=by decide +kernel
theorem tH {i:Int} (h0:0≤i) (h1:i < 26):atI (PySem.Str.cps "abcdefghijklmnopqrstuvwxyz").toList i=some (97 + i.toNat):=by
 have:=sy ⟨i.toNat,by omega⟩
 simp only at this
 rw [show ((i.toNat:Nat):Int)=i by omega] at this
 exact this
inductive cw (ds:List D) (R:D→Prop):Prop
 | mk (c:_) (hh:ds=[.int c]∧Builtin.Int.intBits c≤1048576∧∀ names,t7 names→R (.lst (names.map D.str)))
theorem dS:∀ ds R,cw ds R→ds.length=1:=fun _ _ ⟨_,e,_⟩=>by rw [e];rfl
theorem pk {i j:Int} (h0:0≤i) (h1:0≤j) (e:ltr i=ltr j):i=j:=by
 unfold ltr at e
 simp only [Str.mk.injEq,Array.mk.injEq,List.cons.injEq,and_true] at e
 omega
theorem eO {α:Type} {n:Nat} {h:Nat→α} (inj:∀ i j,i < j→j < n→h i≠h j):((List.range n).map h).Nodup:=by
 refine List.pairwise_map.mpr ?_
 have:=List.pairwise_lt_range (n:=n)
 refine List.Pairwise.imp_of_mem ?_ this
 intro a b ha hb hab
 exact inj a b hab (List.mem_range.mp hb)
theorem jR {i j:Int} (h0:j≠0) (h:j.natAbs.log2 < 9000):CFd i j:=⟨h0,h⟩
theorem b7:ar ["_law_cell_here","_law_letters","_law_many"] ["_law_cell_here"] (ah s__law_names):=⟨rfl,rfl,rfl,by decide +kernel,rfl,by decide +kernel,by decide +kernel⟩
theorem eT (F:Fd K mg "_law_names" s__law_names ["_law_cell_here"]) (f9:mg "sorted"=none) (dm:mg "range"=none):Cal P w K mg base 1 "_law_names" ["_law_cell_here"] (spD K cw):=by
 refine fn_D F b7 dS fun fa cdv A outer s H E ds R hr h=>?_
 have hU:=hr.units
 refine⟨_,(ag (aD 1 b7.nd ay) (ag (aD 2 b7.nd (au aX ae (au cx (au dI (de_v 0) ae) ae))) (aj (av (aV (mG rfl) rfl f9 mq (ac (dr ["_law_k"] [(1,"_law_letters"),(0,"_law_cell_here")] rfl rfl (by decide +kernel) rfl (by decide +kernel) (d3 ⟨rfl,rfl,trivial⟩) (fu rfl) (cP ⟨⟨rfl,rfl,.inl rfl⟩,⟨rfl,rfl,.inl rfl⟩,trivial⟩) (mv rfl dm (ac (de_v 2) af)) fun _ _ _ _ _=>⟨(aG 0 (show List.Nodup (["_law_k","_law_letters","_law_cell_here"]:List Str) by decide +kernel)),gI,(ao am (de_v 1) (au cx (au aX (au cx (de_v 2) ae) (au dY (au aX ae (au dY (au cx (au dI (de_v 2) ae) ae) ae)) (de_v 0))) ae) (fun _ _=>rfl))⟩) af)))))),?_⟩
 obtain ⟨c,rfl,hc,q⟩:=h
 walk_at "rd"
 have a0:=Int.fmod_nonneg_of_pos c (b:=26) (by decide)
 have a1:=Int.fmod_lt_of_pos c (b:=26) (by decide)
 have m0:=Int.fmod_nonneg_of_pos (c.fdiv 26) (b:=4) (by decide)
 have m1:=Int.fmod_lt_of_pos (c.fdiv 26) (b:=4) (by decide)
 have t0:=Int.fmod_nonneg_of_pos (c.fdiv 104) (b:=3) (by decide)
 have t1:=Int.fmod_lt_of_pos (c.fdiv 104) (b:=3) (by decide)
 refine⟨jR (by decide) (by decide +kernel),cnz (by decide),by omega,by omega,by rw [uA,List.length_range];omega,?_⟩
 generalize c.fmod 26=a at a0 a1 ⊢
 generalize (c.fdiv 26).fmod 4=m at m0 m1 ⊢
 generalize (c.fdiv 104).fmod 3=t at t0 t1 ⊢
 let g:Int→Int:=fun k=>(a + (5 + t * 2) * k).fmod 26
 have g0:∀ k,0≤g k:=fun k=>Int.fmod_nonneg_of_pos _ (by decide)
 have g1:∀ k,g k < 26:=fun k=>Int.fmod_lt_of_pos _ (by decide)
 have ht:t=0∨t=1∨t=2:=by omega
 refine⟨fun d=>match d with | .int k=>some (.str (ltr (g k))) | _=>none,fun x hx=>?_,(List.range (1 + m).toNat).map fun k:Nat=>ltr (g k),?_,?_,fun ss' hp hs=>q ss' ⟨?_,?_,?_,hs⟩⟩
 ·obtain ⟨k,hk,rfl⟩:=uC.mp hx
  refine⟨cnz (by decide),jR (by decide) (by decide +kernel),cnz (by decide),IntMulOk.of_right (by decide),?_⟩
  walk_at "rd"
  have hk:=List.mem_range.mp hk
  refine⟨mo2 (sm64 (by omega) (by omega)) (sm64 (by omega) (by omega)),cnz (by decide),by decide,97 + (g k).toNat,tH (g0 k) (g1 k),rfl⟩
 ·exact (aY _ (fun i:Nat=>D.int i) (fun k:Nat=>D.str (ltr (g k))) _ (by intro _ _;rfl)).trans (by rw [List.map_map];rfl)
 ·simp only [uA,List.length_range];omega
 ·refine hp.nodup_iff.mpr (eO fun i j hij hj e=>?_)
  have e:=pk (g0 i) (g0 j) e
  have d1:=Int.fmod_def (a + (5 + t * 2) * (i:Int)) 26
  have d2:=Int.fmod_def (a + (5 + t * 2) * (j:Int)) 26
  have e:(a + (5 + t * 2) * (i:Int)).fmod 26=(a + (5 + t * 2) * (j:Int)).fmod 26:=e
  rw [d1,d2] at e
  have hj4:j < 4:=by omega
  have hi4:i < 4:=by omega
  rcases ht with rfl | rfl | rfl<;>omega
 ·rw [hp.length_eq,uA,List.length_range];omega
 ·rw [hp.length_eq,uA,List.length_range];omega
def tmD (t:Str×Int):D:=.tup [.str t.1,.int t.2]
structure jX (names:List Str) (ts:List (Str×Int)):Prop where
 sub:(ts.map (·.1)).Sublist names
 nz:∀ t∈ts,t.2≠0
 bits:∀ t∈ts,Builtin.Int.intBits t.2≤200
theorem cA {α:Type} {l:List α} {i:Nat} {x:α} (h:l[i]?=some x):l.take (i + 1)=l.take i++[x]:=by rw [List.take_add_one,h];rfl
inductive Kd where
 | least | more
def kdS:Kd→Str
 | .least=>"least"
 | .more=>"more"
def rowD (k:Kd) (ts:List (Str×Int)) (b:Int):D:=.tup [.str (kdS k),.tup (ts.map tmD),.int b]
theorem fN:∀ ts:List (Str×Int),D.nds (ts.map tmD)=true
 | []=>rfl
 | t :: r=>by rw [List.map_cons];unfold D.nds;rw [fN r];rfl
theorem gb:∀ ts:List (Str×Int),D.dps (ts.map tmD)≤1
 | []=>Nat.zero_le _
 | t :: r=>by
  rw [List.map_cons];unfold D.dps
  exact Nat.max_le.mpr ⟨by show 1≤1;decide,gb r⟩
inductive bu (ds:List D) (R:D→Prop):Prop
 | mk (c names:_) (hh:ds=[.int c,.lst (names.map D.str)]∧Builtin.Int.intBits c≤1048576∧names.length≤100∧∀ k ts b,jX names ts→Builtin.Int.intBits b≤200→R (rowD k ts b))
theorem eR:∀ ds R,bu ds R→ds.length=2:=fun _ _ ⟨_,_,e,_⟩=>by rw [e];rfl
theorem bt:ar ["_law_cell_here","_law_names_here","_law_purse_here","_law_terms","_law_name","_law_weight_here","_law_bound"] ["_law_cell_here","_law_names_here"] (ah s__law_row):=⟨rfl,rfl,rfl,by decide +kernel,rfl,by decide +kernel,by decide +kernel⟩
theorem gQ (F:Fd K mg "_law_row" s__law_row ["_law_cell_here","_law_names_here"]) (cC:Cal P w K mg base 1 "_law_purse" ["_law_cell_here"] (spN K (cD))) (bD:Cal P w K mg base 2 "_law_weight" ["_law_purse_here"] (spO K (cc))) (a4:Cal P w K mg base 1 "_law_take" ["_law_purse_here","_law_many"] (spO K (bX))) (ck:mg "tuple"=none):Cal P w K mg base 3 "_law_row" ["_law_cell_here","_law_names_here"] (spD K bu):=by
 refine fn_D F bt eR fun fa cdv A outer s H E ds R hr h=>?_
 have hU:=hr.units
 refine⟨_,(ag (oP 2 bt.nd cC (rm hr) rfl (ac (de_v 0) af)) (ag (iM 3 bt.nd af) (ag (cS PassesOwn.never rfl (de_v 1) (aG 4 bt.nd) (ag (aD 5 bt.nd (cG 2 bD (rm hr) rfl af)) (aj (bC (aO (qB hU) (de_v 5) ae (aw _)) (aj (dy 3 (bB (ac (de_v 4) (ac (de_v 5) af))))) aE)))) (ag (aD 6 bt.nd (cG 2 bD (rm hr) rfl af)) (aj (av (bB (ac (ao am (aQ (ac ay (ac ay af))) (cG 2 a4 (rm hr) rfl (ac ae af)) (fun _ _=>rfl)) (ac (lb 3 rfl ck iG) (ac (de_v 6) af)))))))))),?_⟩
 obtain ⟨c,names,rfl,hc,hl,q⟩:=h
 walk_at "rd"
 refine⟨c,rfl,hc,fun a b pu=>?_⟩
 walk_at "rd"
 intro pa ta
 simp only [gx]
 walk_at "rd"
 refine⟨fun i δ=>∃ a b ts x y z,δ=[.dat (.int c),.dat (.lst (names.map D.str)),.own pa (.lst [.int a,.int b]),.own ta (.lst (ts.map tmD)),x,y,z]∧jI a b∧ts.length≤i∧jX (names.take i) ts,⟨a,b,[],_,_,_,rfl,pu,Nat.le_refl _,⟨by simp,fun _ h=>(nomatch h),fun _ h=>(nomatch h)⟩⟩,?_,?_⟩
 ·rintro i d δ hd ⟨a,b,ts,x,y,z,rfl,pu,hl2,tm⟩
  rw [uN] at hd
  cases hn:names[i]? with
  | none=>rw [hn] at hd;cases hd
  | some n =>
   rw [hn] at hd
   cases hd
   have hil:i < names.length:=(uL.mp hn).1
   walk_at "rd"
   refine⟨a,b,rfl,rfl,pu,fun a1 b1 r pu1 br=>?_⟩
   walk_at "rd"
   have htk:names.take (i + 1)=names.take i++[n]:=by rw [List.take_add_one,hn];rfl
   refine ite2 (fun c0=>⟨by rw [uA];omega,ts++[(n,r)],by rw [uQ];rfl,pu1,by rw [uK,List.length_singleton];omega,?_⟩) (fun c0=>⟨ts,rfl,pu1,by omega,?_⟩)
   ·rw [htk]
    refine⟨by rw [uQ];exact tm.sub.append (List.Sublist.refl _),fun t ht=>?_,fun t ht=>?_⟩
    ·rcases uJ.mp ht with ht | ht
     ·exact tm.nz t ht
     ·rw [uP.mp ht];exact c0
    ·rcases uJ.mp ht with ht | ht
     ·exact tm.bits t ht
     ·rw [uP.mp ht];exact br
   ·rw [htk]
    exact⟨tm.sub.trans (List.sublist_append_left _ _),tm.nz,tm.bits⟩
 ·rintro δ ⟨a,b,ts,x,y,z,rfl,pu,hl2,tm⟩
  walk_at "rd"
  rw [uA,uR] at tm
  refine⟨a,b,rfl,rfl,pu,fun a1 b1 r pu1 br=>?_⟩
  refine⟨a1,b1,2,rfl,rfl,pu1,by decide,by decide,fun a2 b2 r2 pu2 s0 s1=>?_⟩
  have hr2:r2=0∨r2=1:=by omega
  rcases hr2 with rfl | rfl
  ·walk_at "rd"
   exact q .least ts r tm br
  ·walk_at "rd"
   exact q .more ts r tm br
inductive Say where
 | row (k:Kd) (ts:List (Str×Int)) (b:Int)
 | nt (s:Say)
 | bo (s t:Say)
 | ei (s t:Say)
def Say.D:Say→D
 | .row k ts b=>rowD k ts b
 | .nt s=>.tup [.str "not",s.D]
 | .bo s t=>.tup [.str "both",s.D,t.D]
 | .ei s t=>.tup [.str "either",s.D,t.D]
def Say.dep:Say→Nat
 | .row _ _ _=>1
 | .nt s=>s.dep + 1
 | .bo s t=>max s.dep t.dep + 1
 | .ei s t=>max s.dep t.dep + 1
def Say.ok (names:List Str):Say→Prop
 | .row _ ts b=>jX names ts∧Builtin.Int.intBits b≤10000
 | .nt s=>s.ok names
 | .bo s t=>s.ok names∧t.ok names
 | .ei s t=>s.ok names∧t.ok names
theorem Say.dep_pos:∀ s:Say,0 < s.dep
 | .row _ _ _=>Nat.one_pos
 | .nt s=>Nat.succ_pos _
 | .bo s t=>Nat.succ_pos _
 | .ei s t=>Nat.succ_pos _
def Say.isRow:Say→Bool
 | .row _ _ _=>true
 | _=>false
inductive dW (ds:List D) (R:D→Prop):Prop
 | mk (s:Say) (hh:ds=[s.D]∧R (.bl s.isRow))
theorem gP:∀ ds R,dW ds R→ds.length=1:=fun _ _ ⟨_,e,_⟩=>by rw [e];rfl
theorem lV:ar ["saying"] ["saying"] (ah s_is_row):=⟨rfl,rfl,rfl,by decide +kernel,rfl,by decide +kernel,by decide +kernel⟩
theorem jC (F:Fd K mg "is_row" s_is_row ["saying"]):Cal P w K mg base 1 "is_row" ["saying"] (spD K dW):=by
 refine fn_D F lV gP fun fa cdv A outer s H E ds R hr h=>?_
 have hU:=hr.units
 refine⟨_,(aj (av (sS (cp (o_eq hU) (ao am (de_v 0) ae (fun _ _=>rfl)) ay (aw _)) (fA (cp (o_eq hU) (ao am (de_v 0) ae (fun _ _=>rfl)) ay (aw _)))))),?_⟩
 obtain ⟨s,rfl,q⟩:=h
 walk_at "rd"
 cases s with
 | row k ts b =>
  cases k
  ·unfold Say.D rowD kdS;walk_at "rd";exact q
  ·unfold Say.D rowD kdS;walk_at "rd";exact ifn (by decide) q
 | nt s=>unfold Say.D;walk_at "rd";exact ifn (by decide) q
 | bo s t=>unfold Say.D;walk_at "rd";exact ifn (by decide) q
 | ei s t=>unfold Say.D;walk_at "rd";exact ifn (by decide) q
theorem mw {α:Type} {x:α} {xs:List α}:cut (x :: xs) (some 1) none=xs:=by
 unfold cut
 have e1:HT.sIx (x :: xs).length 0 (some 1)=1:=by
  have:=HT.sIx_nat (x :: xs).length 0 1
  rw [uM] at this ⊢
  rw [show (some (1:Int))=some ((1:Nat):Int) from rfl,this]
  omega
 rw [e1,HT.sIx_none,uM,List.drop_one,List.tail_cons,Nat.add_sub_cancel,uR]
theorem jl {α:Type} {l:List α} {i:Nat} {x:α} (h:l[i]?=some x):i < l.length:=(uL.mp h).1
def eB (ns:List Int) (k:Int):Int:=ns.getD k.toNat 0
inductive cV (ds:List D) (R:D→Prop):Prop
 | mk (ns:List Int) (k:Int) (hh:ds=[.fz (ns.map D.int),.int k]∧0≤k∧R (.int (eB ns k)))
theorem eH:∀ ds R,cV ds R→ds.length=2:=fun _ _ ⟨_,_,e,_⟩=>by rw [e];rfl
theorem sQ {α:Type} {xs:List α} {k:Int} (h0:0≤k) (h:k < xs.length):atI xs k=xs[k.toNat]?:=by
 unfold atI ixN
 rw [if_pos h0,if_pos h]
 rfl
theorem gD:ar ["_law_script","_law_k"] ["_law_script","_law_k"] (ah s__law_cell):=⟨rfl,rfl,rfl,by decide +kernel,rfl,by decide +kernel,by decide +kernel⟩
theorem fJ (F:Fd K mg "_law_cell" s__law_cell ["_law_script","_law_k"]) (bJ:mg "len"=none):Cal P w K mg base 1 "_law_cell" ["_law_script","_law_k"] (spD K cV):=by
 refine fn_D F gD eH fun fa cdv A outer s H E ds R hr h=>?_
 have hU:=hr.units
 refine⟨_,(ag (bC (aO o_lt (de_v 1) (aV gG rfl bJ eC (ac (de_v 0) af)) (aw _)) (aj (av (ao am (de_v 0) (de_v 1) (fun _ _=>rfl)))) aE) (aj (av ae))),?_⟩
 obtain ⟨ns,k,rfl,h0,q⟩:=h
 walk_at "rd"
 refine ite2 (fun c=>?_) (fun c=>?_)
 ·rw [uA] at c
  refine⟨.int (eB ns k),?_,q⟩
  rw [sQ h0 (by rw [uA];exact c),uN]
  have:k.toNat < ns.length:=by omega
  unfold eB
  rw [List.getD_eq_getElem?_getD,uZ this]
  rfl
 ·rw [uA] at c
  have:ns.length≤k.toNat:=by omega
  unfold eB at q
  rw [List.getD_eq_getElem?_getD,List.getElem?_eq_none this] at q
  exact q
theorem kr {ns:List Int} {n:Nat} (hb:∀ c∈ns,Builtin.Int.intBits c≤n) (k:Int):Builtin.Int.intBits (eB ns k)≤n:=by
 unfold eB
 rw [List.getD_eq_getElem?_getD]
 cases e:ns[k.toNat]? with
 | none=>exact uD (by decide:Builtin.Int.intBits 0≤0) (Nat.zero_le _)
 | some c=>exact hb c (uO e)
theorem oF {α β:Type} (f:α→β) (l:List α) (lo hi:Option Int):cut (l.map f) lo hi=(cut l lo hi).map f:=by
 unfold cut
 rw [uA,List.map_take,List.map_drop]
theorem qC {α:Type} {l:List α} {lo hi:Option Int} {x:α} (h:x∈cut l lo hi):x∈l:=List.mem_of_mem_drop (List.mem_of_mem_take h)
theorem om {α:Type} {l:List α} (a b:Nat):(cut l (some (a:Int)) (some (b:Int))).length≤b - a:=by
 unfold cut
 rw [uX,List.length_drop,HT.sIx_nat,HT.sIx_nat];omega
def Say.rows:Say→Nat
 | .row _ _ _=>1
 | .nt s=>s.rows
 | .bo s t=>s.rows + t.rows
 | .ei s t=>s.rows + t.rows
structure cE (names:List Str) (ss:List Say) (n:Nat):Prop where
 ok:∀ s∈ss,s.ok names
 dep:(ss.map Say.dep).sum≤n
 rws:(ss.map Say.rows).sum≤n
 pos:0 < ss.length
theorem fE {names:List Str} {k:Kd} {ts:List (Str×Int)} {b:Int} (tm:jX names ts) (hb:Builtin.Int.intBits b≤200):Say.ok names (.row k ts b):=⟨tm,uD hb (by decide)⟩
theorem dG {α:Type} {l:List α} (h:0 < l.length):∃ i x,l=i++[x]:=by
 have:l≠[]:=by intro e;rw [e] at h;cases h
 exact⟨l.dropLast,l.getLast this,(List.dropLast_concat_getLast this).symm⟩
theorem fW (n:Nat):ixN (n + 1) (-1)=some n:=by
 unfold ixN
 rw [if_neg (by omega),if_pos (by omega)]
 congr 1
 omega
theorem fS {α:Type} (l:List α) (x y:α):(l++[x]).set l.length y=l++[y]:=by
 rw [List.set_append_right _ _ (Nat.le_refl _),Nat.sub_self];rfl
theorem f8 {x y:D} {c:Int}:∃ v,atI [x,y] (c.fmod 2)=some v∧(v=x∨v=y):=by
 have h0:=Int.fmod_nonneg_of_pos c (b:=2) (by decide)
 have h1:=Int.fmod_lt_of_pos c (b:=2) (by decide)
 have h:c.fmod 2=0∨c.fmod 2=1:=by omega
 rcases h with h | h
 ·rw [h];exact⟨x,at0,.inl rfl⟩
 ·rw [h];exact⟨y,at1,.inr rfl⟩
theorem db (l:List Say) (x:Say):((l++[x]).map Say.dep).sum=(l.map Say.dep).sum + x.dep:=by
 rw [uQ,List.sum_append];show _ + (x.dep + 0)=_;rfl
theorem df (l:List Say) (x:Say):((l++[x]).map Say.rows).sum=(l.map Say.rows).sum + x.rows:=by
 rw [uQ,List.sum_append];show _ + (x.rows + 0)=_;rfl
theorem kZ:∀ l:List Say,l.length≤(l.map Say.dep).sum
 | []=>Nat.le_refl _
 | x :: l=>by
  have:=kZ l
  have:=x.dep_pos
  show l.length + 1≤x.dep + (l.map Say.dep).sum
  omega
theorem cE.len {names:List Str} {ss:List Say} {n:Nat} (h:cE names ss n):ss.length≤n:=uD (kZ ss) h.dep
theorem cE.not {names:List Str} {l:List Say} {x:Say} {n:Nat} (h:cE names (l++[x]) n):cE names (l++[.nt x]) (n + 1):=by
 refine⟨fun s hs=>?_,?_,?_,by simp⟩
 ·rcases uJ.mp hs with hs | hs
  ·exact h.ok s (uI _ hs)
  ·rw [uP.mp hs]
   exact h.ok x (by simp)
 ·have:=h.dep
  rw [db] at this ⊢
  show _ + (x.dep + 1)≤_
  omega
 ·have:=h.rws
  rw [df] at this ⊢
  show _ + x.rows≤_
  omega
theorem cE.row {names:List Str} {l:List Say} {x:Say} {n:Nat} (h:cE names l n) (o:x.ok names) (d:x.dep=1) (r:x.rows=1):cE names (l++[x]) (n + 1):=by
 refine⟨fun s hs=>?_,?_,?_,by simp⟩
 ·rcases uJ.mp hs with hs | hs
  ·exact h.ok s hs
  ·rw [uP.mp hs];exact o
 ·have:=h.dep
  rw [db]
  omega
 ·have:=h.rws
  rw [df]
  omega
theorem cE.join {names:List Str} {l:List Say} {x y z:Say} {n:Nat} (h:cE names (l++[x]++[y]) n) (hz:z=.bo x y∨z=.ei x y):cE names (l++[z]) n:=by
 have ox:=h.ok x (by simp)
 have oy:=h.ok y (by simp)
 have px:=x.dep_pos
 have py:=y.dep_pos
 have dz:z.dep≤x.dep + y.dep:=by
  rcases hz with rfl | rfl
  ·show max x.dep y.dep + 1≤_;omega
  ·show max x.dep y.dep + 1≤_;omega
 have rz:z.rows=x.rows + y.rows:=by
  rcases hz with rfl | rfl
  ·rfl
  ·rfl
 have oz:z.ok names:=by
  rcases hz with rfl | rfl
  ·exact⟨ox,oy⟩
  ·exact⟨ox,oy⟩
 refine⟨fun s hs=>?_,?_,?_,by simp⟩
 ·rcases uJ.mp hs with hs | hs
  ·exact h.ok s (by simp [hs])
  ·rw [uP.mp hs];exact oz
 ·have:=h.dep
  rw [db,db] at this
  rw [db]
  omega
 ·have:=h.rws
  rw [df,df] at this
  rw [df]
  omega
theorem nw {v:D} {x y:Say} (h:v=.str "both"∨v=.str "either"):∃ z:Say,(z=.bo x y∨z=.ei x y)∧D.tup [v,x.D,y.D]=z.D:=by
 rcases h with rfl | rfl
 ·exact⟨.bo x y,.inl rfl,rfl⟩
 ·exact⟨.ei x y,.inr rfl,rfl⟩
inductive cN (ds:List D) (R:D→Prop):Prop
 | mk (cs:List Int) (names:List Str) (hh:ds=[.lst (cs.map D.int),.lst (names.map D.str)]∧cs.length≤58∧(∀ c∈cs,Builtin.Int.intBits c≤1048576)∧names.length≤60∧∀ s:Say,s.ok names→s.dep≤cs.length + 1→s.rows≤cs.length + 1→R s.D)
theorem eg:∀ ds R,cN ds R→ds.length=2:=fun _ _ ⟨_,_,e,_⟩=>by rw [e];rfl
theorem bA:ar ["_law_cells","_law_names_here","_law_row_here","_law_cell_here","_law_last"] ["_law_cells","_law_names_here"] (ah s__law_wild):=⟨rfl,rfl,rfl,by decide +kernel,rfl,by decide +kernel,by decide +kernel⟩
theorem f6 (F:Fd K mg "_law_wild" s__law_wild ["_law_cells","_law_names_here"]) (aT:Cal P w K mg base 3 "_law_row" ["_law_cell_here","_law_names_here"] (spD K (bu))) (bJ:mg "len"=none):Cal P w K mg base 4 "_law_wild" ["_law_cells","_law_names_here"] (spD K cN):=by
 refine fn_D F bA eg fun fa cdv A outer s H E ds R hr h=>?_
 have hU:=hr.units
 refine⟨_,(ag (iM 2 bA.nd (ac (ax aT (rm hr) rfl (ac (aV gG rfl bJ eC (ac (de_v 0) af)) (ac (de_v 1) af))) af)) (ag (cS PassesOwn.never rfl (de_v 0) (aG 3 bA.nd) (aj (bC (aO (o_eq hU) (au cx (de_v 3) ae) ae (aw _)) (aj (fF 2 (bB (ac ay (ac (eG 2 (cZ cM ae) (fun _ _=>rfl)) af))) (cZ cM ae))) (aj (bC (DW.dt (nK (aO (o_eq hU) (au cx (de_v 3) ae) ae (aw _)) (kO (aO o_gt (gW 2 rfl bJ eC) ae (aw _))))) (ag (lC 2 4 bA.nd) (aj (fF 2 (bB (ac (ao am (aQ (ac ay (ac ay af))) (au cx (au dI (de_v 3) ae) ae) (fun _ _=>rfl)) (ac (eG 2 (cZ cM ae) (fun _ _=>rfl)) (ac (de_v 4) af)))) (cZ cM ae)))) (aj (dy 2 (ax aT (rm hr) rfl (ac (au dI (de_v 3) ae) (ac (de_v 1) af)))))))))) (ag (mJ PassesOwn.never (aO o_gt (gW 2 rfl bJ eC) ae (aw _)) (ag (lC 2 4 bA.nd) (aj (fF 2 (bB (ac (ao am (aQ (ac ay (ac ay af))) (au cx (gW 2 rfl bJ eC) ae) (fun _ _=>rfl)) (ac (eG 2 (cZ cM ae) (fun _ _=>rfl)) (ac (de_v 4) af)))) (cZ cM ae))))) (aj (av (eG 2 ae (fun _ _=>rfl))))))),?_⟩
 obtain ⟨cs,names,rfl,hl,hb,hn,q⟩:=h
 walk_at "rd"
 rw [uA]
 refine⟨_,names,rfl,uD (sm64 (by omega) (by omega)) (by decide),by omega,fun k ts b tm bb=>?_⟩
 walk_at "rd"
 intro a
 simp only [gx]
 walk_at "rd"
 refine⟨fun i δ=>∃ ss x y,δ=[.dat (.lst (cs.map D.int)),.dat (.lst (names.map D.str)),.own a (.lst (ss.map Say.D)),x,y]∧cE names ss (i + 1),⟨[.row k ts b],_,_,rfl,⟨fun s hs=>by rw [uP.mp hs];exact fE tm bb,by show 1 + 0≤0 + 1;decide,by show 1 + 0≤0 + 1;decide,Nat.one_pos⟩⟩,?_,?_⟩
 ·rintro i d δ hd ⟨ss,x,y,rfl,hs⟩
  rw [uN] at hd
  cases hc:cs[i]? with
  | none=>rw [hc] at hd;cases hd
  | some c =>
   rw [hc] at hd
   cases hd
   have hcm:=hb c (uO hc)
   have hil:=jl hc
   obtain ⟨ini,lst,rfl⟩:=dG hs.pos
   rw [uQ,List.map_singleton]
   walk_at "rd"
   have app:CFd c 4∧bu [D.int (c.fdiv 4),D.lst (names.map D.str)] fun d=>(ini.map Say.D++[lst.D]).length < 9000∧∃ x,ini.map Say.D++[lst.D]++[d]=x.map Say.D∧cE names x (i + 1 + 1):=by
    refine⟨jR (by decide) (by decide +kernel),_,names,rfl,intBits_fdiv_le hcm,by omega,fun k ts b tm bb=>⟨?_,ini++[lst]++[.row k ts b],?_,hs.row (fE tm bb) rfl rfl⟩⟩
    ·have:=hs.len
     rw [uK,List.length_singleton] at this
     rw [uK,uA,List.length_singleton]
     omega
    ·rw [uQ,uQ];rfl
   refine⟨cnz (by decide),ite2 (fun _=>?_) (fun _=>⟨cnz (by decide),ite2 (fun _=>ite2 (fun h1=>?_) (fun _=>app)) (fun _=>app)⟩)⟩
   ·refine⟨ini.length,?_,ini++[.nt lst],?_,hs.not⟩
    ·rw [uK,uA,List.length_singleton];exact fW _
    ·rw [show ini.length=(ini.map Say.D).length by rw [uA],fS,uQ];rfl
   ·rw [uK,uA,List.length_singleton] at h1
    obtain ⟨in2,x2,rfl⟩:=dG (l:=ini) (by omega)
    obtain ⟨v,hv,hvv⟩:=f8 (x:=D.str (Str.ofString "both")) (y:=D.str (Str.ofString "either")) (c:=c.fdiv 4)
    obtain ⟨z,hz,ez⟩:=nw (x:=x2) (y:=lst) hvv
    refine⟨(in2++[x2]).map Say.D,lst.D,rfl,jR (by decide) (by decide +kernel),cnz (by decide),v,hv,x2.D,?_,in2.length,?_,in2++[z],?_,?_⟩
    ·rw [uQ];exact fH _ _
    ·rw [uA,uK,List.length_singleton];exact fW _
    ·rw [ez,uQ,uQ,show in2.length=(in2.map Say.D).length by rw [uA]]
     exact fS _ _ _
    ·have:=hs.join hz
     exact⟨this.ok,Nat.le_succ_of_le this.dep,Nat.le_succ_of_le this.rws,this.pos⟩
 ·rintro δ ⟨ss,x,y,rfl,hs⟩
  rw [uA] at hs
  simp only [nC]
  refine⟨fun δ=>∃ ss x y,δ=[.dat (.lst (cs.map D.int)),.dat (.lst (names.map D.str)),.own a (.lst (ss.map Say.D)),x,y]∧cE names ss (cs.length + 1),fun δ=>match δ with | [_,_,.own _ (.lst l),_,_]=>l.length | _=>0,⟨ss,x,y,rfl,hs⟩,?_⟩
  rintro δ ⟨ss,x,y,rfl,hs⟩
  obtain ⟨ini,lst,rfl⟩:=dG hs.pos
  rw [uQ,List.map_singleton]
  walk_at "rd"
  refine ite2 (fun h1=>?_) (fun h1=>?_)
  ·rw [uK,uA,List.length_singleton] at h1
   obtain ⟨in2,x2,rfl⟩:=dG (l:=ini) (by omega)
   obtain ⟨v,hv,hvv⟩:=f8 (x:=D.str (Str.ofString "either")) (y:=D.str (Str.ofString "both")) (c:=(((in2++[x2]).map Say.D).length:Int))
   obtain ⟨z,hz,ez⟩:=nw (x:=x2) (y:=lst) hvv.symm
   refine⟨(in2++[x2]).map Say.D,lst.D,rfl,cnz (by decide),v,hv,x2.D,?_,in2.length,?_,⟨in2++[z],?_,hs.join hz⟩,?_⟩
   ·rw [uQ];exact fH _ _
   ·rw [uA,uK,List.length_singleton];exact fW _
   ·rw [ez,uQ,uQ,show in2.length=(in2.map Say.D).length by rw [uA]]
    exact fS _ _ _
   ·rw [List.length_set,uK,List.length_singleton];omega
  ·rw [uK,uA,List.length_singleton] at h1
   have e:ini=[]:=List.length_eq_zero_iff.mp (by omega)
   subst e
   refine⟨lst.D,at0,q lst (hs.ok lst (by simp)) ?_ ?_⟩
   ·have:=hs.dep
    have e:(([]++[lst]:List Say).map Say.dep).sum=lst.dep + 0:=rfl
    omega
   ·have:=hs.rws
    have e:(([]++[lst]:List Say).map Say.rows).sum=lst.rows + 0:=rfl
    omega
def Kd.op:Kd→Kd
 | .least=>.more
 | .more=>.least
def opps:List (Str×Str):=[("least","more"),("more","least"),("both","either"),("either","both")]
theorem sP (k:Kd):PyProof.Rows.KTD.datumAt (kdS k) opps=some (kdS k.op):=by cases k<;>decide
def conD (k:Kd) (ts:List (Str×Int)) (b:Int):D:=rowD k.op (negT ts) (-b)
inductive dq (ds:List D) (R:D→Prop):Prop
 | mk (k:Kd) (ts:List (Str×Int)) (b:Int) (hh:ds=[rowD k ts b]∧ts.length≤100∧R (conD k ts b))
theorem eP:∀ ds R,dq ds R→ds.length=1:=fun _ _ ⟨_,_,_,e,_⟩=>by rw [e];rfl
theorem d9:ar ["row","terms"] ["row"] (ah s_contrary):=⟨rfl,rfl,rfl,by decide +kernel,rfl,by decide +kernel,by decide +kernel⟩
theorem gl (F:Fd K mg "contrary" s_contrary ["row"]) (ck:mg "tuple"=none) (g_OPPOSITES:GTab K mg "OPPOSITES" [("least","more"),("more","least"),("both","either"),("either","both")]):Cal P w K mg base 1 "contrary" ["row"] (spD K dq):=by
 refine fn_D F d9 eP fun fa cdv A outer s H E ds R hr h=>?_
 have hU:=hr.units
 refine⟨_,(ag (aD 1 d9.nd (di lL rfl ck iG (ac (dr ["name","weight"] [] rfl rfl (by decide +kernel) rfl (by decide +kernel) (d3 trivial) (fu rfl) (cP trivial) (nG (ao am (de_v 0) ae (fun _ _=>rfl))) fun _ _ _ _ _=>⟨(nr (n:=2) rfl (bw (aG 0 (show List.Nodup (["name","weight"]:List Str) by decide +kernel)) (bw (aG 1 (show List.Nodup (["name","weight"]:List Str) by decide +kernel)) eM))),gI,(bB (ac (de_v 0) (ac (cZ cM (de_v 1)) af)))⟩) af))) (aj (av (bB (ac (km rfl g_OPPOSITES (ao am (de_v 0) ae (fun _ _=>rfl)) (fun _ _=>rfl)) (ac (de_v 1) (ac (cZ cM (ao am (de_v 0) ae (fun _ _=>rfl))) af))))))),?_⟩
 obtain ⟨k,ts,b,rfl,hl,q⟩:=h
 unfold rowD
 walk_at "rd"
 refine⟨by rw [uA];omega,fun d=>match d with | .tup [.str n,.int w]=>some (.tup [.str n,.int (-w)]) | _=>none,fun x hx=>?_,?_⟩
 ·obtain ⟨t,_,rfl⟩:=uC.mp hx
  unfold tmD
  walk_at "rd"
 ·rw [aY _ tmD (fun t=>D.tup [.str t.1,.int (-t.2)]) _ (by intro _ _;rfl)]
  refine⟨_,sP k,?_⟩
  unfold conD rowD negT at q
  rw [List.map_map] at q
  exact q
def Say.pl:Say→Bool→Say
 | .row k ts b,t=>if t=true then .row k.op (negT ts) (-b) else .row k ts b
 | .nt s,t=>s.pl (!t)
 | .bo s u,t=>if t=true then .ei (s.pl t) (u.pl t) else .bo (s.pl t) (u.pl t)
 | .ei s u,t=>if t=true then .bo (s.pl t) (u.pl t) else .ei (s.pl t) (u.pl t)
inductive aR (n:Nat) (ds:List D) (R:D→Prop):Prop
 | mk (s:Say) (t:Bool) (names:List Str) (hh:ds=[s.D,.bl t]∧s.dep≤n∧s.ok names∧names.length≤100∧R (s.pl t).D)
theorem dL (n:Nat):∀ ds R,aR n ds R→ds.length=2:=fun _ _ ⟨_,_,_,e,_⟩=>by rw [e];rfl
theorem dk:∀ ds R,¬ aR 0 ds R:=fun _ _ ⟨s,_,_,_,h,_⟩=>by have:=s.dep_pos;omega
theorem gH {names:List Str} {ts:List (Str×Int)} (h:jX names ts):ts.length≤names.length:=by have:=h.sub.length_le;rw [uA] at this;exact this
theorem c4:ar ["saying","turned","word"] ["saying","turned"] (ah s_plain_part):=⟨rfl,rfl,rfl,by decide +kernel,rfl,by decide +kernel,by decide +kernel⟩
theorem eS (F:Fd K mg "plain_part" s_plain_part ["saying","turned"]) (cF:Cal P w K mg base 1 "is_row" ["saying"] (spD K (dW))) (dl:Cal P w K mg base 1 "contrary" ["row"] (spD K (dq))) (g_OPPOSITES:GTab K mg "OPPOSITES" [("least","more"),("more","least"),("both","either"),("either","both")]) {n:Nat} (aL:Cal P w K mg base (2 + n) "plain_part" ["saying","turned"] (spD K (aR n))):Cal P w K mg base (2 + n + 1) "plain_part" ["saying","turned"] (spD K (aR (n + 1))):=by
 refine fn_D (k:=2 + n) F c4 (dL (n + 1)) fun fa cdv A outer s H E ds R hr h=>?_
 have hU:=hr.units
 refine⟨_,(ag (bC (aO (o_eq hU) (ao am (de_v 0) ae (fun _ _=>rfl)) ay (aw _)) (aj (av (ax aL (hr.mono (by omega)) rfl (ac (ao am (de_v 0) ae (fun _ _=>rfl)) (ac (k8 (de_v 1)) af))))) aE) (ag (bC (bT (ax cF (hr.mono (by omega)) rfl (ac (de_v 0) af))) (aj (av (pL (bT (de_v 1)) (ax dl (hr.mono (by omega)) rfl (ac (de_v 0) af)) (de_v 0)))) aE) (ag (aD 2 c4.nd (pL (bT (de_v 1)) (km rfl g_OPPOSITES (ao am (de_v 0) ae (fun _ _=>rfl)) (fun _ _=>rfl)) (ao am (de_v 0) ae (fun _ _=>rfl)))) (aj (av (bB (ac (de_v 2) (ac (ax aL (hr.mono (by omega)) rfl (ac (ao am (de_v 0) ae (fun _ _=>rfl)) (ac (de_v 1) af))) (ac (ax aL (hr.mono (by omega)) rfl (ac (ao am (de_v 0) ae (fun _ _=>rfl)) (ac (de_v 1) af))) af))))))))),?_⟩
 obtain ⟨s,t,names,rfl,hd,ok,hl,q⟩:=h
 cases s with
 | row k ts b =>
  have hts:=gH ok.1
  have hnot:¬ kdS k=Str.ofString "not":=by cases k<;>decide
  unfold Say.D rowD
  walk_at "rd"
  refine ifn hnot ⟨.row k ts b,rfl,?_⟩
  walk_at "rd"
  refine ifp rfl ?_
  cases t with
  | true=>exact ifp rfl ⟨k,ts,b,rfl,by omega,q⟩
  | false=>exact ifn Bool.false_ne_true q
 | nt s =>
  unfold Say.D
  walk_at "rd"
  have hd:s.dep + 1≤n + 1:=hd
  exact⟨s,!t,names,rfl,by omega,ok,hl,q⟩
 | bo s u =>
  unfold Say.D
  walk_at "rd"
  have hd:max s.dep u.dep + 1≤n + 1:=hd
  refine ifn (by decide) ⟨.bo s u,rfl,?_⟩
  walk_at "rd"
  refine ifn Bool.false_ne_true ?_
  cases t with
  | true =>
   refine ifp rfl ⟨"either",by decide,?_⟩
   refine⟨s,true,names,rfl,by omega,ok.1,hl,?_⟩
   refine⟨u,true,names,rfl,by omega,ok.2,hl,?_⟩
   exact q
  | false =>
   refine ifn Bool.false_ne_true ?_
   refine⟨s,false,names,rfl,by omega,ok.1,hl,?_⟩
   refine⟨u,false,names,rfl,by omega,ok.2,hl,?_⟩
   exact q
 | ei s u =>
  unfold Say.D
  walk_at "rd"
  have hd:max s.dep u.dep + 1≤n + 1:=hd
  refine ifn (by decide) ⟨.ei s u,rfl,?_⟩
  walk_at "rd"
  refine ifn Bool.false_ne_true ?_
  cases t with
  | true =>
   refine ifp rfl ⟨"both",by decide,?_⟩
   refine⟨s,true,names,rfl,by omega,ok.1,hl,?_⟩
   refine⟨u,true,names,rfl,by omega,ok.2,hl,?_⟩
   exact q
  | false =>
   refine ifn Bool.false_ne_true ?_
   refine⟨s,false,names,rfl,by omega,ok.1,hl,?_⟩
   refine⟨u,false,names,rfl,by omega,ok.2,hl,?_⟩
   exact q
inductive ix (ds:List D) (R:D→Prop):Prop
 | mk (s:Say) (names:List Str) (hh:ds=[s.D]∧s.dep≤60∧s.ok names∧names.length≤100∧R (s.pl false).D)
theorem ie:∀ ds R,ix ds R→ds.length=1:=fun _ _ ⟨_,_,e,_⟩=>by rw [e];rfl
theorem mz:ar ["saying"] ["saying"] (ah s_plain):=⟨rfl,rfl,rfl,by decide +kernel,rfl,by decide +kernel,by decide +kernel⟩
theorem kq (F:Fd K mg "plain" s_plain ["saying"]) (aL:Cal P w K mg base 62 "plain_part" ["saying","turned"] (spD K (aR 60))):Cal P w K mg base 63 "plain" ["saying"] (spD K ix):=by
 refine fn_D F mz ie fun fa cdv A outer s H E ds R hr h=>?_
 have hU:=hr.units
 refine⟨_,(aj (av (ax aL (rm hr) rfl (ac (de_v 0) (ac kl af))))),?_⟩
 obtain ⟨s,names,rfl,hd,ok,hl,q⟩:=h
 walk_at "rd"
 exact⟨s,false,names,rfl,hd,ok,hl,q⟩
theorem Say.pl_dep:∀ {s:Say} {t:Bool},(s.pl t).dep≤s.dep
 | .row k ts b,true=>Nat.le_refl _
 | .row k ts b,false=>Nat.le_refl _
 | .nt s,t=>Nat.le_succ_of_le (Say.pl_dep (s:=s))
 | .bo s u,true=>by have:=Say.pl_dep (s:=s) (t:=true);have:=Say.pl_dep (s:=u) (t:=true);show max _ _ + 1≤max _ _ + 1;omega
 | .bo s u,false=>by have:=Say.pl_dep (s:=s) (t:=false);have:=Say.pl_dep (s:=u) (t:=false);show max _ _ + 1≤max _ _ + 1;omega
 | .ei s u,true=>by have:=Say.pl_dep (s:=s) (t:=true);have:=Say.pl_dep (s:=u) (t:=true);show max _ _ + 1≤max _ _ + 1;omega
 | .ei s u,false=>by have:=Say.pl_dep (s:=s) (t:=false);have:=Say.pl_dep (s:=u) (t:=false);show max _ _ + 1≤max _ _ + 1;omega
def Say.args:Say→List DL.D
 | .row k ts b=>[.str (kdS k),.tup (ts.map tmD),.int b]
 | .nt s=>[.str "not",s.D]
 | .bo s t=>[.str "both",s.D,t.D]
 | .ei s t=>[.str "either",s.D,t.D]
theorem Say.D_args (s:Say):s.D=.tup s.args:=by cases s<;>rfl
theorem Say.nds:∀ s:Say,DL.D.nds s.args=true
 | .row k ts b=>by
  show (true && (DL.D.nds (ts.map tmD) && (true && true)))=true
  rw [fN];rfl
 | .nt s=>by
  show (true && (DL.D.nd s.D && true))=true
  rw [s.D_args];show (true && (DL.D.nds s.args && true))=true
  rw [Say.nds s];rfl
 | .bo s t=>by
  show (true && (DL.D.nd s.D && (DL.D.nd t.D && true)))=true
  rw [s.D_args,t.D_args];show (true && (DL.D.nds s.args && (DL.D.nds t.args && true)))=true
  rw [Say.nds s,Say.nds t];rfl
 | .ei s t=>by
  show (true && (DL.D.nd s.D && (DL.D.nd t.D && true)))=true
  rw [s.D_args,t.D_args];show (true && (DL.D.nds s.args && (DL.D.nds t.args && true)))=true
  rw [Say.nds s,Say.nds t];rfl
theorem Say.dps:∀ s:Say,DL.D.dps s.args≤s.dep + 1
 | .row k ts b=>by
  have:=gb ts
  show max 0 (max (DL.D.dps (ts.map tmD) + 1) (max 0 0))≤1 + 1
  omega
 | .nt s=>by
  have:=Say.dps s
  show max 0 (max (DL.D.dp s.D) 0)≤s.dep + 1 + 1
  rw [s.D_args];show max 0 (max (DL.D.dps s.args + 1) 0)≤s.dep + 1 + 1
  omega
 | .bo s t=>by
  have:=Say.dps s
  have:=Say.dps t
  show max 0 (max (DL.D.dp s.D) (max (DL.D.dp t.D) 0))≤max s.dep t.dep + 1 + 1
  rw [s.D_args,t.D_args];show max 0 (max (DL.D.dps s.args + 1) (max (DL.D.dps t.args + 1) 0))≤max s.dep t.dep + 1 + 1
  omega
 | .ei s t=>by
  have:=Say.dps s
  have:=Say.dps t
  show max 0 (max (DL.D.dp s.D) (max (DL.D.dp t.D) 0))≤max s.dep t.dep + 1 + 1
  rw [s.D_args,t.D_args];show max 0 (max (DL.D.dps s.args + 1) (max (DL.D.dps t.args + 1) 0))≤max s.dep t.dep + 1 + 1
  omega
theorem nQ {s t:Say} {R:D→Prop} (e:s=t) (hd:s.dep≤59) (h:R (.bl true)):fEq [s.D,t.D] R:=by
 subst e
 rw [s.D_args]
 exact⟨⟨rfl,s.nds,by have:=s.dps;omega⟩,h⟩
def Say.cs:Say→List (List Say)
 | .row k ts b=>[[.row k ts b]]
 | .nt _=>[]
 | .bo s t=>s.cs.flatMap fun c=>t.cs.map fun d=>c++d
 | .ei s t=>s.cs++t.cs
def Say.pn:Say→Bool
 | .row _ _ _=>true
 | .nt _=>false
 | .bo s t=>s.pn && t.pn
 | .ei s t=>s.pn && t.pn
def Say.num:Say→Nat
 | .bo s t=>s.num * t.num
 | .ei s t=>s.num + t.num
 | _=>1
def Say.long:Say→Nat
 | .bo s t=>s.long + t.long
 | .ei s t=>max s.long t.long
 | _=>1
theorem Say.num_pos:∀ s:Say,0 < s.num
 | .row _ _ _=>Nat.one_pos
 | .nt _=>Nat.one_pos
 | .bo s t=>Nat.mul_pos s.num_pos t.num_pos
 | .ei s t=>Nat.add_pos_left s.num_pos _
theorem cH {α β γ:Type} (f:α→β→γ) (m:List β):∀ l:List α,(l.flatMap fun c=>m.map fun d=>f c d).length=l.length * m.length
 | []=>(Nat.zero_mul _).symm
 | c :: l=>by rw [List.flatMap_cons,uK,uA,cH f m l,uM,Nat.succ_mul,Nat.add_comm]
theorem Say.cs_num:∀ {s:Say},s.pn=true→s.cs.length=s.num
 | .row _ _ _,_=>rfl
 | .bo s t,h=>by
  obtain ⟨h1,h2⟩:=uY.mp h
  show (s.cs.flatMap fun c=>t.cs.map fun d=>c++d).length=s.num * t.num
  rw [cH,Say.cs_num h1,Say.cs_num h2]
 | .ei s t,h=>by
  obtain ⟨h1,h2⟩:=uY.mp h
  show (s.cs++t.cs).length=s.num + t.num
  rw [uK,Say.cs_num h1,Say.cs_num h2]
theorem Say.cs_long:∀ {s:Say},s.pn=true→∀ c∈s.cs,c.length≤s.long
 | .row _ _ _,_,c,h=>by rw [uP.mp h];exact Nat.le_refl 1
 | .bo s t,h,c,hc=>by
  obtain ⟨h1,h2⟩:=uY.mp h
  obtain ⟨x,hx,hy⟩:=List.mem_flatMap.mp hc
  obtain ⟨y,hz,rfl⟩:=uC.mp hy
  have:=Say.cs_long h1 x hx
  have:=Say.cs_long h2 y hz
  rw [uK]
  show _≤s.long + t.long
  omega
 | .ei s t,h,c,hc=>by
  obtain ⟨h1,h2⟩:=uY.mp h
  show _≤max s.long t.long
  rcases uJ.mp hc with hc | hc
  ·have:=Say.cs_long h1 c hc;omega
  ·have:=Say.cs_long h2 c hc;omega
theorem Say.pl_pn:∀ {s:Say} {t:Bool},(s.pl t).pn=true
 | .row k ts b,true=>rfl
 | .row k ts b,false=>rfl
 | .nt s,t=>Say.pl_pn (s:=s)
 | .bo s u,true=>by show ((s.pl true).pn && (u.pl true).pn)=true;rw [Say.pl_pn,Say.pl_pn];rfl
 | .bo s u,false=>by show ((s.pl false).pn && (u.pl false).pn)=true;rw [Say.pl_pn,Say.pl_pn];rfl
 | .ei s u,true=>by show ((s.pl true).pn && (u.pl true).pn)=true;rw [Say.pl_pn,Say.pl_pn];rfl
 | .ei s u,false=>by show ((s.pl false).pn && (u.pl false).pn)=true;rw [Say.pl_pn,Say.pl_pn];rfl
def aP (c:List Say):D:=.lst (c.map Say.D)
def csD (cs:List (List Say)):D:=.lst (cs.map aP)
inductive bO (ds:List D) (R:D→Prop):Prop
 | mk (A B:List (List Say)) (hh:ds=[csD A,csD B]∧A.length≤20∧B.length≤20∧(∀ c∈A,c.length≤20)∧(∀ c∈B,c.length≤20)∧R (csD (A.flatMap fun c=>B.map fun d=>c++d)))
theorem c9:∀ ds R,bO ds R→ds.length=2:=fun _ _ ⟨_,_,e,_⟩=>by rw [e];rfl
theorem jg {cs:List (List Say)} {i:Nat} {d:D} (h:(cs.map aP)[i]?=some d):∃ c,cs[i]?=some c∧d=.lst (c.map Say.D):=by
 rw [uN] at h
 cases e:cs[i]? with
 | none=>rw [e] at h;cases h
 | some n=>rw [e] at h;exact⟨n,rfl,(Option.some.inj h).symm⟩
theorem bj:ar ["one","other","told","first","second"] ["one","other"] (ah s_put_together):=⟨rfl,rfl,rfl,by decide +kernel,rfl,by decide +kernel,by decide +kernel⟩
theorem dP (F:Fd K mg "put_together" s_put_together ["one","other"]):Cal P w K mg base 1 "put_together" ["one","other"] (spD K bO):=by
 refine fn_D F bj c9 fun fa cdv A outer s H E ds R hr h=>?_
 have hU:=hr.units
 refine⟨_,(ag (iM 2 bj.nd af) (ag (cS PassesOwn.never rfl (de_v 0) (aG 3 bj.nd) (aj (cS PassesOwn.never rfl (de_v 1) (aG 4 bj.nd) (aj (dy 2 (au aX (de_v 3) (de_v 4))))))) (aj (pW 2)))),?_⟩
 obtain ⟨A,B,rfl,hA,hB,lA,lB,q⟩:=h
 unfold csD at q ⊢
 walk_at "rd"
 intro a
 simp only [gx]
 walk_at "rd"
 have fl:∀ i,((A.take i).flatMap fun c=>B.map fun d=>c++d).length≤400:=fun i=>by
  rw [cH,uX]
  exact Nat.mul_le_mul (show min i A.length≤20 by omega) hB
 refine⟨fun i δ=>∃ x y,δ=[.dat (.lst (A.map aP)),.dat (.lst (B.map aP)),.own a (.lst (((A.take i).flatMap fun c=>B.map fun d=>c++d).map aP)),x,y],⟨_,_,rfl⟩,?_,?_⟩
 ·rintro i d δ hd ⟨x,y,rfl⟩
  obtain ⟨c,hc,rfl⟩:=jg hd
  have hcl:=lA c (uO hc)
  have hfl:=fl i
  walk_at "rd"
  refine⟨fun j δ=>∃ x,δ=[.dat (.lst (A.map aP)),.dat (.lst (B.map aP)),.own a (.lst (((A.take i).flatMap (fun c=>B.map fun d=>c++d)++(B.take j).map fun d=>c++d).map aP)),.dat (.lst (c.map Say.D)),x],⟨_,by rw [List.take_zero,List.map_nil,List.append_nil]⟩,?_,?_⟩
  ·rintro j d δ hd ⟨x,rfl⟩
   obtain ⟨e,he,rfl⟩:=jg hd
   have hel:=lB e (uO he)
   walk_at "rd"
   refine⟨by simp only [uA];omega,by simp only [uA,uK,uX];omega,?_⟩
   rw [cA he,uQ,uQ,uQ]
   simp only [aP,uQ,List.map_cons,List.map_nil,List.append_assoc]
  ·rintro δ ⟨x,rfl⟩
   rw [uA,uR]
   rw [cA hc,List.flatMap_append,List.flatMap_singleton]
   exact⟨_,_,rfl⟩
 ·rintro δ ⟨x,y,rfl⟩
  rw [uA,uR]
  walk_at "rd"
  exact q
def Say.few (s:Say):Prop:=s.num≤4∧s.long≤3
def aA (n:Nat):FE:=fun ds R RE=>∃ (s:Say) (w:D),ds=[s.D,w]∧s.dep≤n∧s.pn=true∧(s.few→R (csD s.cs))∧(¬ s.few→RE "TooMany" "saying" w)
theorem dg (n:Nat):∀ ds R RE,aA n ds R RE→ds.length=2:=fun _ _ _ ⟨_,_,e,_⟩=>by rw [e];rfl
theorem cX:∀ ds R RE,¬ aA 0 ds R RE:=fun _ _ _ ⟨s,_,_,h,_⟩=>by have:=s.dep_pos;omega
theorem Say.long_at:∀ {s:Say},s.pn=true→∃ c∈s.cs,c.length=s.long
 | .row _ _ _,_=>⟨_,uP.mpr rfl,rfl⟩
 | .bo s t,h=>by
  obtain ⟨h1,h2⟩:=uY.mp h
  obtain ⟨c,hc,e1⟩:=Say.long_at h1
  obtain ⟨d,hd,e2⟩:=Say.long_at h2
  exact⟨c++d,List.mem_flatMap.mpr ⟨c,hc,uC.mpr ⟨d,hd,rfl⟩⟩,by rw [uK,e1,e2];rfl⟩
 | .ei s t,h=>by
  obtain ⟨h1,h2⟩:=uY.mp h
  obtain ⟨c,hc,e1⟩:=Say.long_at h1
  obtain ⟨d,hd,e2⟩:=Say.long_at h2
  by_cases z:t.long≤s.long
  ·exact⟨c,uI _ hc,by rw [e1];show s.long=max s.long t.long;omega⟩
  ·exact⟨d,uH _ hd,by rw [e2];show t.long=max s.long t.long;omega⟩
theorem nW {s:Say} {P Q:Prop} (hp:s.pn=true) (h16:s.cs.length≤900) (q0:¬ s.few→Q) (q:s.few→P):((4:Int) < (s.cs.map aP).length→Q)∧(¬ (4:Int) < (s.cs.map aP).length→(s.cs.map aP).length≤9000∧∃ f:D→Option D,(∀ x∈s.cs.map aP,fLen [x] fun d=>f x=some d)∧∃ ns:List Int,(s.cs.map aP).filterMap f=ns.map D.int∧0 < ns.length∧∀ M∈ns,(∀ m∈ns,m≤M)→if 3 < M then Q else P):=by
 refine⟨fun h=>q0 fun f=>?_,fun h=>⟨by rw [uA];omega,fun d=>match d with | .lst l=>some (.int l.length) | _=>none,fun x hx=>?_,s.cs.map fun c=>(c.length:Int),?_,by rw [uA,Say.cs_num hp];exact s.num_pos,fun M hM hmax=>?_⟩⟩
 ·rw [uA,Say.cs_num hp] at h
  have:=f.1
  omega
 ·obtain ⟨c,_,rfl⟩:=uC.mp hx
  rfl
 ·rw [aY _ aP (fun c=>D.int (c.length:Int)) _ (by intro c _;show some (D.int ((c.map Say.D).length:Int))=_;rw [uA]),List.map_map];rfl
 ·obtain ⟨c,hc,rfl⟩:=uC.mp hM
  obtain ⟨d,hd,e⟩:=Say.long_at hp
  have h1:=hmax _ (uC.mpr ⟨d,hd,rfl⟩)
  have h2:=Say.cs_long hp c hc
  rw [uA,Say.cs_num hp] at h
  by_cases z:(3:Int) < c.length
  ·rw [if_pos z]
   exact q0 fun f=>by have:=f.2;omega
  ·rw [if_neg z]
   exact q ⟨by omega,by omega⟩
theorem bh:ar ["part","whole","one","other","told"] ["part","whole"] (ah s_cases_within):=⟨rfl,rfl,rfl,by decide +kernel,rfl,by decide +kernel,by decide +kernel⟩
theorem dM (F:Fd K mg "cases_within" s_cases_within ["part","whole"]) {R NR:Addr} (er:Er P w K mg base R NR) (cF:Cal P w K mg base 1 "is_row" ["saying"] (spD K (dW))) (bR:Cal P w K mg base 1 "put_together" ["one","other"] (spD K (bO))) (eX:mg "max"=none) (bJ:mg "len"=none) (g_MOST_ROWS:GInt mg "MOST_ROWS" 3) (g_MOST_CASES:GInt mg "MOST_CASES" 4) {n:Nat} (aC:CalE P w K mg base (3 + n) "cases_within" ["part","whole"] (aA n)):CalE P w K mg base (3 + n + 1) "cases_within" ["part","whole"] (aA (n + 1)):=by
 refine fn_E (k:=3 + n) F bh (dg (n + 1)) fun fa cdv A outer s H E ds R RE hr h=>?_
 have hU:=hr.units
 refine⟨_,(ag (bC (bT (ax cF (hr.mono (by omega)) rfl (ac (de_v 0) af))) (aj (av (aQ (ac (aQ (ac (de_v 0) af)) af)))) aE) (ag (lD 2 bh.nd aC (hr.mono (by omega)) rfl (ac (ao am (de_v 0) ae (fun _ _=>rfl)) (ac (de_v 1) af))) (ag (lD 3 bh.nd aC (hr.mono (by omega)) rfl (ac (ao am (de_v 0) ae (fun _ _=>rfl)) (ac (de_v 1) af))) (ag (aD 4 bh.nd (pL (aO (o_eq hU) (ao am (de_v 0) ae (fun _ _=>rfl)) ay (aw _)) (ax bR (hr.mono (by omega)) rfl (ac (de_v 2) (ac (de_v 3) af))) (au aX (de_v 2) (de_v 3)))) (ag (bC (DW.dt (jY (aO o_gt (aV gG rfl bJ eC (ac (de_v 4) af)) (lN rfl g_MOST_CASES) (aw _)) (fq (aO o_gt (aV (mB rfl) rfl eX mI (ac (DE.nox (dr ["case"] [] rfl rfl (by decide +kernel) rfl (by decide +kernel) (d3 trivial) (fu rfl) (cP trivial) (kS (de_v 4)) fun _ _ _ _ _=>⟨(aG 0 (show List.Nodup (["case"]:List Str) by decide +kernel)),gI,(aV gG rfl bJ eC (ac (de_v 0) af))⟩)) af)) (lN rfl g_MOST_ROWS) (aw _))))) (aj (ds_x er.t (hr.mono (by omega)) rfl (de_v 1))) aE) (aj (av (de_v 4)))))))),?_⟩
 obtain ⟨s,w,rfl,hd,hp,q,q0⟩:=h
 walk_at "rd"
 refine⟨s,rfl,?_⟩
 walk_at "rd"
 cases s with
 | nt s=>cases hp
 | row k ts b=>exact ifp rfl (q ⟨by show 1≤4;decide,by show 1≤3;decide⟩)
 | bo s t =>
  refine ifn Bool.false_ne_true ?_
  unfold Say.D
  walk_at "rd"
  obtain ⟨p1,p2⟩:=uY.mp hp
  have hd:max s.dep t.dep + 1≤n + 1:=hd
  have f1:(Say.bo s t).few→s.few:=fun f=>⟨uD (Nat.le_mul_of_pos_right _ t.num_pos) f.1,by have:s.long + t.long≤3:=f.2;omega⟩
  have f2:(Say.bo s t).few→t.few:=fun f=>⟨uD (Nat.le_mul_of_pos_left _ s.num_pos) f.1,by have:s.long + t.long≤3:=f.2;omega⟩
  refine⟨s,w,rfl,by omega,p1,fun g1=>⟨t,w,rfl,by omega,p2,fun g2=>?_,fun g2=>q0 fun f=>g2 (f2 f)⟩,fun g1=>q0 fun f=>g1 (f1 f)⟩
  have l1:s.cs.length≤4:=by rw [Say.cs_num p1];exact g1.1
  have l2:t.cs.length≤4:=by rw [Say.cs_num p2];exact g2.1
  refine⟨s.cs,t.cs,rfl,by omega,by omega,fun c hc=>by have:=Say.cs_long p1 c hc;have:=g1.2;omega,fun c hc=>by have:=Say.cs_long p2 c hc;have:=g2.2;omega,?_⟩
  have l3:(Say.bo s t).cs.length≤900:=by
   show (s.cs.flatMap fun c=>t.cs.map fun d=>c++d).length≤900
   rw [cH]
   exact uD (Nat.mul_le_mul l1 l2) (by decide)
  obtain ⟨e1,e2⟩:=nW hp l3 q0 q
  show fLen [csD (Say.bo s t).cs] _
  unfold csD
  walk_at "rd"
  exact ite2 e1 e2
 | ei s t =>
  refine ifn Bool.false_ne_true ?_
  unfold Say.D
  walk_at "rd"
  obtain ⟨p1,p2⟩:=uY.mp hp
  have hd:max s.dep t.dep + 1≤n + 1:=hd
  have f1:(Say.ei s t).few→s.few:=fun f=>⟨by have:s.num + t.num≤4:=f.1;omega,by have:max s.long t.long≤3:=f.2;omega⟩
  have f2:(Say.ei s t).few→t.few:=fun f=>⟨by have:s.num + t.num≤4:=f.1;omega,by have:max s.long t.long≤3:=f.2;omega⟩
  refine⟨s,w,rfl,by omega,p1,fun g1=>⟨t,w,rfl,by omega,p2,fun g2=>?_,fun g2=>q0 fun f=>g2 (f2 f)⟩,fun g1=>q0 fun f=>g1 (f1 f)⟩
  have l1:s.cs.length≤4:=by rw [Say.cs_num p1];exact g1.1
  have l2:t.cs.length≤4:=by rw [Say.cs_num p2];exact g2.1
  refine ifn (by decide) ?_
  unfold csD at q ⊢
  walk_at "rd"
  have e0:s.cs.map aP++t.cs.map aP=(Say.ei s t).cs.map aP:=(uQ ..).symm
  rw [e0]
  refine⟨by rw [uA,uA];omega,?_⟩
  have l3:(Say.ei s t).cs.length≤900:=by
   show (s.cs++t.cs).length≤900
   rw [uK]
   omega
  obtain ⟨e1,e2⟩:=nW hp l3 q0 q
  exact ite2 e1 e2
def fR:FE:=fun ds R RE=>∃ (s:Say) (names:List Str),ds=[s.D]∧s.dep≤60∧s.ok names∧names.length≤100∧((s.pl false).few→R (csD (s.pl false).cs))∧(¬ (s.pl false).few→RE "TooMany" "saying" s.D)
theorem iz:∀ ds R RE,fR ds R RE→ds.length=1:=fun _ _ _ ⟨_,_,e,_⟩=>by rw [e];rfl
theorem mr:ar ["saying"] ["saying"] (ah s_cases):=⟨rfl,rfl,rfl,by decide +kernel,rfl,by decide +kernel,by decide +kernel⟩
theorem lY (F:Fd K mg "cases" s_cases ["saying"]) (aC:CalE P w K mg base 63 "cases_within" ["part","whole"] (aA 60)) (iV:Cal P w K mg base 63 "plain" ["saying"] (spD K (ix))):CalE P w K mg base 64 "cases" ["saying"] fR:=by
 refine fn_E F mr iz fun fa cdv A outer s H E ds R RE hr h=>?_
 have hU:=hr.units
 refine⟨_,(aj (qc aC (rm hr) rfl (ac (ax iV (rm hr) rfl (ac (de_v 0) af)) (ac (de_v 0) af)))),?_⟩
 obtain ⟨s,names,rfl,hd,ok,hl,q,q0⟩:=h
 walk_at "rd"
 refine⟨s,names,rfl,hd,ok,hl,?_⟩
 exact⟨s.pl false,s.D,rfl,uD Say.pl_dep hd,Say.pl_pn,q,q0⟩
theorem Say.rows_pos:∀ s:Say,0 < s.rows
 | .row _ _ _=>Nat.one_pos
 | .nt s=>s.rows_pos
 | .bo s t=>Nat.add_pos_left s.rows_pos _
 | .ei s t=>Nat.add_pos_left s.rows_pos _
theorem jE {a b:Nat} (ha:0 < a) (hb:0 < b):2 ^ a + 2 ^ b≤2 ^ (a + b):=by
 rw [Nat.pow_add]
 have h1:2≤2 ^ a:=uD (by decide:2≤2 ^ 1) (Nat.pow_le_pow_right (by decide) ha)
 have h2:2≤2 ^ b:=uD (by decide:2≤2 ^ 1) (Nat.pow_le_pow_right (by decide) hb)
 generalize 2 ^ a=x at h1
 generalize 2 ^ b=y at h2
 rcases Nat.le_total x y with h | h
 ·have:=Nat.mul_le_mul_right y h1;omega
 ·have:=Nat.mul_le_mul_left x h2;omega
theorem Say.num_rows:∀ s:Say,s.num≤2 ^ s.rows∧s.long≤s.rows
 | .row _ _ _=>⟨(by decide:1≤2 ^ 1),Nat.le_refl 1⟩
 | .nt s=>⟨Nat.one_le_two_pow,s.rows_pos⟩
 | .bo s t=>by
  obtain ⟨a,b⟩:=Say.num_rows s
  obtain ⟨c,d⟩:=Say.num_rows t
  refine⟨?_,?_⟩
  ·show s.num * t.num≤2 ^ (s.rows + t.rows)
   rw [Nat.pow_add];exact Nat.mul_le_mul a c
  ·show s.long + t.long≤s.rows + t.rows;omega
 | .ei s t=>by
  obtain ⟨a,b⟩:=Say.num_rows s
  obtain ⟨c,d⟩:=Say.num_rows t
  refine⟨?_,?_⟩
  ·show s.num + t.num≤2 ^ (s.rows + t.rows)
   have:=jE s.rows_pos t.rows_pos
   omega
  ·show max s.long t.long≤s.rows + t.rows;omega
theorem Say.rows_num:∀ {s:Say},s.pn=true→s.rows≤s.num * s.long
 | .row _ _ _,_=>Nat.le_refl 1
 | .bo s t,h=>by
  obtain ⟨h1,h2⟩:=uY.mp h
  have a:=Say.rows_num h1
  have b:=Say.rows_num h2
  show s.rows + t.rows≤s.num * t.num * (s.long + t.long)
  rw [Nat.mul_add]
  have c:s.num * s.long≤s.num * t.num * s.long:=Nat.mul_le_mul_right _ (Nat.le_mul_of_pos_right _ t.num_pos)
  have d:t.num * t.long≤s.num * t.num * t.long:=Nat.mul_le_mul_right _ (Nat.le_mul_of_pos_left _ s.num_pos)
  omega
 | .ei s t,h=>by
  obtain ⟨h1,h2⟩:=uY.mp h
  have a:=Say.rows_num h1
  have b:=Say.rows_num h2
  show s.rows + t.rows≤(s.num + t.num) * max s.long t.long
  rw [Nat.add_mul]
  have c:s.num * s.long≤s.num * max s.long t.long:=Nat.mul_le_mul_left _ (Nat.le_max_left _ _)
  have d:t.num * t.long≤t.num * max s.long t.long:=Nat.mul_le_mul_left _ (Nat.le_max_right _ _)
  omega
theorem Say.pl_rows:∀ {s:Say} {t:Bool},(s.pl t).rows=s.rows
 | .row k ts b,true=>rfl
 | .row k ts b,false=>rfl
 | .nt s,t=>Say.pl_rows (s:=s)
 | .bo s u,true=>by show (s.pl true).rows + (u.pl true).rows=_;rw [Say.pl_rows,Say.pl_rows];rfl
 | .bo s u,false=>by show (s.pl false).rows + (u.pl false).rows=_;rw [Say.pl_rows,Say.pl_rows];rfl
 | .ei s u,true=>by show (s.pl true).rows + (u.pl true).rows=_;rw [Say.pl_rows,Say.pl_rows];rfl
 | .ei s u,false=>by show (s.pl false).rows + (u.pl false).rows=_;rw [Say.pl_rows,Say.pl_rows];rfl
theorem jb (n:Nat) (r:Nat) (h:n≤2 ^ r) (hr:r≤60):Builtin.Int.intBits (n:Int)≤64:=by
 have:2 ^ r≤2 ^ 60:=Nat.pow_le_pow_right (by decide) hr
 have e:(2:Nat) ^ 60=1152921504606846976:=by decide
 exact sm64 (by omega) (by omega)
def entL (s:Say):List D:=[s.D,.int (s.pl false).num,.int (s.pl false).long,.int (s.pl true).num,.int (s.pl true).long]
def entD (s:Say):D:=.lst (entL s)
def Say.fits (s:Say):Prop:=((s.pl false).num < 5∧(s.pl false).long < 4)∨((s.pl true).num < 5∧(s.pl true).long < 4)
theorem Say.fits_rows {s:Say} (h:s.fits):s.rows≤12:=by
 rcases h with ⟨h1,h2⟩ | ⟨h1,h2⟩
 ·have:=Say.rows_num (Say.pl_pn (s:=s) (t:=false))
  rw [Say.pl_rows] at this
  exact uD this (Nat.mul_le_mul (show _≤4 by omega) (show _≤3 by omega))
 ·have:=Say.rows_num (Say.pl_pn (s:=s) (t:=true))
  rw [Say.pl_rows] at this
  exact uD this (Nat.mul_le_mul (show _≤4 by omega) (show _≤3 by omega))
theorem fV {s:Say} {t:Bool} (h:s.rows≤50):Builtin.Int.intBits ((s.pl t).num:Int)≤64∧Builtin.Int.intBits ((s.pl t).long:Int)≤64:=by
 obtain ⟨a,b⟩:=Say.num_rows (s.pl t)
 rw [Say.pl_rows] at a b
 exact⟨jb _ _ a (by omega),sm64 (by omega) (by omega)⟩
inductive bF (ds:List D) (R:D→Prop):Prop
 | mk (w:D) (s t:Say) (hh:ds=[w,entD s,entD t]∧(w=.str "both"∨w=.str "either")∧s.rows≤50∧t.rows≤50∧∀ u:Say,(u=.bo s t∨u=.ei s t)→R (entD u))
theorem dE:∀ ds R,bF ds R→ds.length=3:=fun _ _ ⟨_,_,_,e,_⟩=>by rw [e];rfl
theorem at3 {α:Type} {a b c x:α} {xs:List α}:atI (a :: b :: c :: x :: xs) 3=some x:=by
 unfold atI ixN
 simp only [uM]
 rw [if_pos (by omega),if_pos (by omega)]
 rfl
theorem at4 {α:Type} {a b c d x:α} {xs:List α}:atI (a :: b :: c :: d :: x :: xs) 4=some x:=by
 unfold atI ixN
 simp only [uM]
 rw [if_pos (by omega),if_pos (by omega)]
 rfl
theorem bQ:ar ["_law_sort","_law_one","_law_other","_law_few"] ["_law_sort","_law_one","_law_other"] (ah s__law_joined):=⟨rfl,rfl,rfl,by decide +kernel,rfl,by decide +kernel,by decide +kernel⟩
theorem d4 (F:Fd K mg "_law_joined" s__law_joined ["_law_sort","_law_one","_law_other"]) (eX:mg "max"=none):Cal P w K mg base 1 "_law_joined" ["_law_sort","_law_one","_law_other"] (spD K bF):=by
 refine fn_D F bQ dE fun fa cdv A outer s H E ds R hr h=>?_
 have hU:=hr.units
 refine⟨_,(ag (bC (aO (o_eq hU) (de_v 0) ay (aw _)) (aj (aD 3 bQ.nd (aQ (ac (au dY (ao am (de_v 1) ae (fun _ _=>rfl)) (ao am (de_v 2) ae (fun _ _=>rfl))) (ac (au aX (ao am (de_v 1) ae (fun _ _=>rfl)) (ao am (de_v 2) ae (fun _ _=>rfl))) (ac (au aX (ao am (de_v 1) ae (fun _ _=>rfl)) (ao am (de_v 2) ae (fun _ _=>rfl))) (ac (aV (mB rfl) rfl eX mI (ac (ao am (de_v 1) ae (fun _ _=>rfl)) (ac (ao am (de_v 2) ae (fun _ _=>rfl)) af))) af))))))) (aj (aD 3 bQ.nd (aQ (ac (au aX (ao am (de_v 1) ae (fun _ _=>rfl)) (ao am (de_v 2) ae (fun _ _=>rfl))) (ac (aV (mB rfl) rfl eX mI (ac (ao am (de_v 1) ae (fun _ _=>rfl)) (ac (ao am (de_v 2) ae (fun _ _=>rfl)) af))) (ac (au dY (ao am (de_v 1) ae (fun _ _=>rfl)) (ao am (de_v 2) ae (fun _ _=>rfl))) (ac (au aX (ao am (de_v 1) ae (fun _ _=>rfl)) (ao am (de_v 2) ae (fun _ _=>rfl))) af)))))))) (aj (av (au aX (aQ (ac (bB (ac (de_v 0) (ac (ao am (de_v 1) ae (fun _ _=>rfl)) (ac (ao am (de_v 2) ae (fun _ _=>rfl)) af)))) af)) (de_v 3))))),?_⟩
 obtain ⟨w,s,t,rfl,hw,hs,ht,q⟩:=h
 unfold entD entL at q ⊢
 have b1:=fV (t:=false) hs
 have b2:=fV (t:=true) hs
 have b3:=fV (t:=false) ht
 have b4:=fV (t:=true) ht
 rcases hw with rfl | rfl
 ·walk_at "rd"
  simp only [at3,at4]
  walk_at "rd"
  refine⟨mo2 b1.1 b3.1,?_⟩
  rw [show ((s.pl false).num:Int) * (t.pl false).num=(((Say.bo s t).pl false).num:Int) from (Int.natCast_mul _ _).symm,show ((s.pl false).long:Int) + (t.pl false).long=(((Say.bo s t).pl false).long:Int) from (Int.natCast_add _ _).symm,
   show ((s.pl true).num:Int) + (t.pl true).num=(((Say.bo s t).pl true).num:Int) from (Int.natCast_add _ _).symm,show max ((s.pl true).long:Int) (t.pl true).long=(((Say.bo s t).pl true).long:Int) by show _=((max (s.pl true).long (t.pl true).long:Nat):Int);omega]
  exact q _ (.inl rfl)
 ·walk_at "rd"
  simp only [at3,at4]
  refine ifn (by decide) ?_
  walk_at "rd"
  refine⟨mo2 b2.1 b4.1,?_⟩
  rw [show ((s.pl false).num:Int) + (t.pl false).num=(((Say.ei s t).pl false).num:Int) from (Int.natCast_add _ _).symm,show max ((s.pl false).long:Int) (t.pl false).long=(((Say.ei s t).pl false).long:Int) by show _=((max (s.pl false).long (t.pl false).long:Nat):Int);omega,
   show ((s.pl true).num:Int) * (t.pl true).num=(((Say.ei s t).pl true).num:Int) from (Int.natCast_mul _ _).symm,show ((s.pl true).long:Int) + (t.pl true).long=(((Say.ei s t).pl true).long:Int) from (Int.natCast_add _ _).symm]
  exact q _ (.inr rfl)
inductive b9 (ds:List D) (R:D→Prop):Prop
 | mk (s:Say) (hh:ds=[entD s]∧(s.fits→R (.bl true))∧(¬ s.fits→R (.bl false)))
theorem d5:∀ ds R,b9 ds R→ds.length=1:=fun _ _ ⟨_,e,_⟩=>by rw [e];rfl
theorem gr:ar ["_law_one"] ["_law_one"] (ah s__law_fits):=⟨rfl,rfl,rfl,by decide +kernel,rfl,by decide +kernel,by decide +kernel⟩
theorem fM (F:Fd K mg "_law_fits" s__law_fits ["_law_one"]):Cal P w K mg base 1 "_law_fits" ["_law_one"] (spD K b9):=by
 refine fn_D F gr d5 fun fa cdv A outer s H E ds R hr h=>?_
 have hU:=hr.units
 refine⟨_,(aj (av (sS (gv (cp o_lt (ao am (de_v 0) ae (fun _ _=>rfl)) ae (aw _)) (fA (cp o_lt (ao am (de_v 0) ae (fun _ _=>rfl)) ae (aw _)))) (fA (gv (cp o_lt (ao am (de_v 0) ae (fun _ _=>rfl)) ae (aw _)) (fA (cp o_lt (ao am (de_v 0) ae (fun _ _=>rfl)) ae (aw _)))))))),?_⟩
 obtain ⟨s,rfl,q1,q2⟩:=h
 unfold entD entL
 walk_at "rd"
 simp only [at3,at4]
 walk_at "rd"
 unfold Say.fits at q1 q2
 have x1:((s.pl false).num:Int) < 5↔(s.pl false).num < 5:=by omega
 have x2:((s.pl false).long:Int) < 4↔(s.pl false).long < 4:=by omega
 have x3:((s.pl true).num:Int) < 5↔(s.pl true).num < 5:=by omega
 have x4:((s.pl true).long:Int) < 4↔(s.pl true).long < 4:=by omega
 have snd:((s.pl false).num < 5→¬ (s.pl false).long < 4)→if ((s.pl true).num:Int) < 5 then R (D.bl (decide (((s.pl true).long:Int) < 4))) else R (D.bl false):=fun hn=>ite2 (fun a=>by
  by_cases b:((s.pl true).long:Int) < 4
  ·rw [decide_eq_true b];exact q1 (.inr ⟨x3.mp a,x4.mp b⟩)
  ·rw [decide_eq_false b];exact q2 (fun h=>h.elim (fun z=>hn z.1 z.2) fun z=>b (x4.mpr z.2))) (fun a=>q2 fun h=>h.elim (fun z=>hn z.1 z.2) fun z=>a (x3.mpr z.1))
 exact ite2 (fun a=>ite2 (fun b=>q1 (.inl ⟨x1.mp a,x2.mp b⟩)) fun b=>snd fun _ z=>b (x2.mpr z)) (fun a=>snd fun z _=>a (x1.mpr z))
theorem kL {α:Type} (l r:List α) (k:Nat) (hk:r.length=k) (h0:0 < k):cut (l++r) none (some (-(k:Int)))=l:=by
 unfold cut
 rw [HT.sIx_none]
 have:HT.sIx (l++r).length (l++r).length (some (-(k:Int)))=l.length:=by
  show (if -(k:Int) < 0 then (-(k:Int) + ((l++r).length:Int)).toNat else _)=_
  rw [if_pos (by omega),uK]
  omega
 rw [this,List.drop_zero,Nat.sub_zero,List.take_left]
theorem atm2 {α:Type} (l:List α) (x y:α):atI (l++[x]++[y]) (-2)=some x:=by
 unfold atI ixN
 rw [if_neg (by omega)]
 simp only [uK,List.length_singleton]
 rw [if_pos (by omega)]
 show (l++[x]++[y])[(-2 + ((l.length + 1 + 1:Nat):Int)).toNat]?=some x
 rw [show (-2 + ((l.length + 1 + 1:Nat):Int)).toNat=l.length by omega]
 simp
inductive cy (ds:List D) (R:D→Prop):Prop
 | mk (ss:List Say) (c:Int) (names:List Str) (m:Nat) (hh:ds=[.lst (ss.map entD),.int c,.lst (names.map D.str)]∧Builtin.Int.intBits c≤1048576∧names.length≤60∧cE names ss m∧m≤60∧(∀ s∈ss,s.fits)∧∀ ss':List Say,cE names ss' (m + 1)→(∀ s∈ss',s.fits)→R (.lst (ss'.map entD)))
theorem dR:∀ ds R,cy ds R→ds.length=3:=fun _ _ ⟨_,_,_,_,e,_⟩=>by rw [e];rfl
theorem jh {k:Kd} {ts:List (Str×Int)} {b:Int}:(Say.row k ts b).fits:=.inl ⟨by show 1 < 5;decide,by show 1 < 4;decide⟩
theorem b8:ar ["_law_row_here","_law_cell_here","_law_names_here","_law_last","_law_laid"] ["_law_row_here","_law_cell_here","_law_names_here"] (ah s__law_grown):=⟨rfl,rfl,rfl,by decide +kernel,rfl,by decide +kernel,by decide +kernel⟩
theorem eV (F:Fd K mg "_law_grown" s__law_grown ["_law_row_here","_law_cell_here","_law_names_here"]) (a5:Cal P w K mg base 1 "_law_joined" ["_law_sort","_law_one","_law_other"] (spD K (bF))) (bv:Cal P w K mg base 1 "_law_fits" ["_law_one"] (spD K (b9))) (aT:Cal P w K mg base 3 "_law_row" ["_law_cell_here","_law_names_here"] (spD K (bu))) (bJ:mg "len"=none):Cal P w K mg base 4 "_law_grown" ["_law_row_here","_law_cell_here","_law_names_here"] (spD K cy):=by
 refine fn_D F b8 dR fun fa cdv A outer s H E ds R hr h=>?_
 have hU:=hr.units
 refine⟨_,(ag (aD 3 b8.nd (ao am (de_v 0) (cZ cM ae) (fun _ _=>rfl))) (ag (bC (aO (o_eq hU) (au cx (de_v 1) ae) ae (aw _)) (aj (av (au aX (gJ (de_v 0) iD (cU (cZ cM ae))) (aQ (ac (aQ (ac (bB (ac ay (ac (ao am (de_v 3) ae (fun _ _=>rfl)) af))) (ac (ao am (de_v 3) ae (fun _ _=>rfl)) (ac (ao am (de_v 3) ae (fun _ _=>rfl)) (ac (ao am (de_v 3) ae (fun _ _=>rfl)) (ac (ao am (de_v 3) ae (fun _ _=>rfl)) af)))))) af))))) aE) (ag (bC (DW.dt (nK (aO (o_eq hU) (au cx (de_v 1) ae) ae (aw _)) (kO (aO o_gt (aV gG rfl bJ eC (ac (de_v 0) af)) ae (aw _))))) (ag (aD 4 b8.nd (ax a5 (rm hr) rfl (ac (ao am (aQ (ac ay (ac ay af))) (au cx (au dI (de_v 1) ae) ae) (fun _ _=>rfl)) (ac (ao am (de_v 0) (cZ cM ae) (fun _ _=>rfl)) (ac (de_v 3) af))))) (aj (bC (bT (ax bv (rm hr) rfl (ac (de_v 4) af))) (aj (av (au aX (gJ (de_v 0) iD (cU (cZ cM ae))) (aQ (ac (de_v 4) af))))) aE))) aE) (aj (av (au aX (de_v 0) (aQ (ac (aQ (ac (ax aT (rm hr) rfl (ac (au dI (de_v 1) ae) (ac (de_v 2) af))) (ac ae (ac ae (ac ae (ac ae af)))))) af)))))))),?_⟩
 obtain ⟨ss,c,names,m,rfl,hc,hn,hs,hm,hf,q⟩:=h
 obtain ⟨ini,lst,rfl⟩:=dG hs.pos
 rw [uQ,List.map_singleton]
 walk_at "rd"
 have ln:(ini++[lst]).length≤60:=uD hs.len hm
 rw [uK,List.length_singleton] at ln
 have app:CFd c 4∧bu [D.int (c.fdiv 4),D.lst (names.map D.str)] fun d=>(ini.map entD++[entD lst]).length≤8999∧R (D.lst (ini.map entD++[entD lst]++[D.lst [d,D.int 1,D.int 1,D.int 1,D.int 1]])):=by
  refine⟨jR (by decide) (by decide +kernel),_,names,rfl,intBits_fdiv_le hc,by omega,fun k ts b tm bb=>⟨by rw [uK,uA,List.length_singleton];omega,?_⟩⟩
  have:=q (ini++[lst]++[.row k ts b]) (hs.row (fE tm bb) rfl rfl) fun s h=>by
   rcases uJ.mp h with h | h
   ·exact hf s h
   ·rw [uP.mp h];exact jh
  rw [uQ,uQ] at this
  exact this
 have c1:cut (ini.map entD++[entD lst]) none (some (-1))=ini.map entD:=kL (ini.map entD) [entD lst] 1 rfl (by decide)
 refine⟨cnz (by decide),ite2 (fun _=>?_) (fun _=>⟨cnz (by decide),ite2 (fun _=>ite2 (fun h1=>?_) (fun _=>app)) (fun _=>app)⟩)⟩
 ·rw [c1]
  unfold entD entL
  walk_at "rd"
  simp only [at3,at4]
  walk_at "rd"
  refine⟨by rw [uA];omega,?_⟩
  have:=q (ini++[.nt lst]) hs.not fun s h=>by
   rcases uJ.mp h with h | h
   ·exact hf s (uI _ h)
   ·rw [uP.mp h]
    exact (hf lst (by simp)).symm
  rw [uQ] at this
  exact this
 ·rw [uK,uA,List.length_singleton] at h1
  obtain ⟨in2,x2,rfl⟩:=dG (l:=ini) (by omega)
  obtain ⟨v,hv,hvv⟩:=f8 (x:=D.str (Str.ofString "both")) (y:=D.str (Str.ofString "either")) (c:=c.fdiv 4)
  have c2:cut ((in2++[x2]).map entD++[entD lst]) none (some (-2))=in2.map entD:=by
   rw [uQ,List.append_assoc]
   exact kL (in2.map entD) _ 2 rfl (by decide)
  have g2:atI ((in2++[x2]).map entD++[entD lst]) (-2)=some (entD x2):=by
   rw [uQ]
   exact atm2 _ _ _
  rw [c2]
  refine⟨jR (by decide) (by decide +kernel),cnz (by decide),v,hv,entD x2,g2,v,x2,lst,rfl,hvv,uD (Say.fits_rows (hf x2 (by simp))) (by decide),uD (Say.fits_rows (hf lst (by simp))) (by decide),fun u hu=>⟨u,rfl,fun hfit=>?_,fun _=>?_⟩⟩
  ·walk_at "rd"
   rw [uK,List.length_singleton] at ln
   refine⟨by rw [uA];omega,?_⟩
   have j:=hs.join hu
   have:=q (in2++[u]) ⟨j.ok,Nat.le_succ_of_le j.dep,Nat.le_succ_of_le j.rws,j.pos⟩ fun s h=>by
    rcases uJ.mp h with h | h
    ·exact hf s (by simp [h])
    ·rw [uP.mp h];exact hfit
   rw [uQ] at this
   exact this
  ·walk_at "rd"
   exact app
def few (s:Say):Prop:=(s.pl false).num≤4∧(s.pl false).long≤3
inductive cm (ds:List D) (R:D→Prop):Prop
 | mk (cs:List Int) (names:List Str) (hh:ds=[.lst (cs.map D.int),.lst (names.map D.str)]∧cs.length≤50∧(∀ c∈cs,Builtin.Int.intBits c≤1048576)∧names.length≤60∧∀ s:Say,s.ok names→s.dep≤cs.length + 2→few s→R s.D)
theorem dA:∀ ds R,cm ds R→ds.length=2:=fun _ _ ⟨_,_,e,_⟩=>by rw [e];rfl
theorem aB:ar ["_law_cells","_law_names_here","_law_row_here","_law_cell_here","_law_found","_law_one","_law_both"] ["_law_cells","_law_names_here"] (ah s__law_saying):=⟨rfl,rfl,rfl,by decide +kernel,rfl,by decide +kernel,by decide +kernel⟩
theorem ee (F:Fd K mg "_law_saying" s__law_saying ["_law_cells","_law_names_here"]) (aT:Cal P w K mg base 3 "_law_row" ["_law_cell_here","_law_names_here"] (spD K (bu))) (cB:Cal P w K mg base 4 "_law_grown" ["_law_row_here","_law_cell_here","_law_names_here"] (spD K (cy))) (a5:Cal P w K mg base 1 "_law_joined" ["_law_sort","_law_one","_law_other"] (spD K (bF))) (bv:Cal P w K mg base 1 "_law_fits" ["_law_one"] (spD K (b9))) (bJ:mg "len"=none):Cal P w K mg base 5 "_law_saying" ["_law_cells","_law_names_here"] (spD K cm):=by
 refine fn_D F aB dA fun fa cdv A outer s H E ds R hr h=>?_
 have hU:=hr.units
 refine⟨_,(ag (aD 2 aB.nd (aQ (ac (aQ (ac (ax aT (rm hr) rfl (ac (aV gG rfl bJ eC (ac (de_v 0) af)) (ac (de_v 1) af))) (ac ae (ac ae (ac ae (ac ae af)))))) af))) (ag (cS PassesOwn.never rfl (de_v 0) (aG 3 aB.nd) (aj (aD 2 aB.nd (ax cB (rm hr) rfl (ac (de_v 2) (ac (de_v 3) (ac (de_v 1) af))))))) (ag (aD 4 aB.nd (ao am (de_v 2) ae (fun _ _=>rfl))) (ag (cS PassesOwn.never rfl (gJ (de_v 2) (cU ae) iD) (aG 5 aB.nd) (ag (aD 6 aB.nd (ax a5 (rm hr) rfl (ac (ao am (aQ (ac ay (ac ay af))) (au cx (aV gG rfl bJ eC (ac (de_v 2) af)) ae) (fun _ _=>rfl)) (ac (de_v 4) (ac (de_v 5) af))))) (aj (bC (bT (ax bv (rm hr) rfl (ac (de_v 6) af))) (aj (aD 4 aB.nd (de_v 6))) aE)))) (ag (bC (DW.dt (jY (aO o_gt (ao am (de_v 4) ae (fun _ _=>rfl)) ae (aw _)) (fq (aO o_gt (ao am (de_v 4) ae (fun _ _=>rfl)) ae (aw _))))) (aj (av (bB (ac ay (ac (ao am (de_v 4) ae (fun _ _=>rfl)) af))))) aE) (aj (av (ao am (de_v 4) ae (fun _ _=>rfl))))))))),?_⟩
 obtain ⟨cs,names,rfl,hl,hb,hn,q⟩:=h
 walk_at "rd"
 rw [uA]
 refine⟨_,names,rfl,uD (sm64 (by omega) (by omega)) (by decide),by omega,fun k ts b tm bb=>?_⟩
 simp only [gx]
 walk_at "rd"
 refine⟨fun i δ=>∃ ss x y z u,δ=[.dat (.lst (cs.map D.int)),.dat (.lst (names.map D.str)),.dat (.lst (ss.map entD)),x,y,z,u]∧cE names ss (i + 1)∧∀ s∈ss,s.fits,⟨[.row k ts b],_,_,_,_,rfl,⟨fun s hs=>by rw [uP.mp hs];exact fE tm bb,by show 1 + 0≤0 + 1;decide,by show 1 + 0≤0 + 1;decide,Nat.one_pos⟩,fun s hs=>by rw [uP.mp hs];exact jh⟩,?_,?_⟩
 ·rintro i d δ hd ⟨ss,x,y,z,u,rfl,hs,hf⟩
  rw [uN] at hd
  cases hc:cs[i]? with
  | none=>rw [hc] at hd;cases hd
  | some c =>
   rw [hc] at hd
   cases hd
   have hcm:=hb c (uO hc)
   have hil:=jl hc
   walk_at "rd"
   refine⟨ss,c,names,i + 1,rfl,hcm,hn,hs,by omega,hf,fun ss' hs' hf'=>?_⟩
   walk_at "rd"
   exact⟨ss',rfl,hs',hf'⟩
 ·rintro δ ⟨ss,x,y,z,u,rfl,hs,hf⟩
  rw [uA] at hs
  cases ss with
  | nil=>exact absurd hs.pos (by decide)
  | cons s0 r =>
  walk_at "rd"
  simp only [gx]
  walk_at "rd"
  rw [mw]
  have dsum:s0.dep + (r.map Say.dep).sum≤cs.length + 1:=hs.dep
  refine⟨fun i δ=>∃ f x z u,δ=[.dat (.lst (cs.map D.int)),.dat (.lst (names.map D.str)),.dat (.lst (entD s0 :: r.map entD)),x,.dat (entD f),z,u]∧f.ok names∧f.fits∧f.dep + ((r.drop i).map Say.dep).sum≤cs.length + 1,⟨s0,_,_,_,rfl,hs.ok s0 (by simp),hf s0 (by simp),by rw [List.drop_zero];exact dsum⟩,?_,?_⟩
  ·rintro i d δ hd ⟨f,x,z,u,rfl,fo,ff,fd⟩
   rw [uN] at hd
   cases hc:r[i]? with
   | none=>rw [hc] at hd;cases hd
   | some t =>
    rw [hc] at hd
    cases hd
    have htm:=uO hc
    have hto:=hs.ok t (uB _ htm)
    have htf:=hf t (uB _ htm)
    have hil:=jl hc
    have hdr:r.drop i=t :: r.drop (i + 1):=by
     rw [List.drop_eq_getElem_cons hil]
     congr 1
     exact (uL.mp hc).2
    rw [hdr,List.map_cons,List.sum_cons] at fd
    obtain ⟨v,hv,hvv⟩:=f8 (x:=D.str (Str.ofString "either")) (y:=D.str (Str.ofString "both")) (c:=((entD s0 :: r.map entD).length:Int))
    walk_at "rd"
    refine⟨cnz (by decide),v,hv,v,f,t,rfl,hvv.symm,uD (Say.fits_rows ff) (by decide),uD (Say.fits_rows htf) (by decide),fun w hw=>?_⟩
    walk_at "rd"
    have pf:=f.dep_pos
    have pt:=t.dep_pos
    have dw:w.dep≤f.dep + t.dep:=by
     rcases hw with rfl | rfl
     ·show max f.dep t.dep + 1≤_;omega
     ·show max f.dep t.dep + 1≤_;omega
    have ow:w.ok names:=by
     rcases hw with rfl | rfl
     ·exact⟨fo,hto⟩
     ·exact⟨fo,hto⟩
    refine⟨w,rfl,fun hfit=>?_,fun _=>?_⟩
    ·walk_at "rd"
     exact⟨w,rfl,ow,hfit,by omega⟩
    ·walk_at "rd"
     exact⟨f,rfl,fo,ff,by omega⟩
  ·rintro δ ⟨f,x,z,u,rfl,fo,ff,fd⟩
   unfold entD entL
   walk_at "rd"
   have fd2:f.dep≤cs.length + 1:=by omega
   have sec:¬ few f→few (.nt f):=fun h=>by
    rcases ff with h1 | h1
    ·exact absurd ⟨by omega,by omega⟩ h
    ·exact⟨show (f.pl true).num≤4 by omega,show (f.pl true).long≤3 by omega⟩
   refine ite2 (fun h1=>?_) (fun h1=>ite2 (fun h2=>?_) (fun h2=>?_))
   ·exact q (.nt f) fo (by show f.dep + 1≤_;omega) (sec fun h=>by have:=h.1;omega)
   ·exact q (.nt f) fo (by show f.dep + 1≤_;omega) (sec fun h=>by have:=h.2;omega)
   ·exact q f fo (by omega) ⟨by omega,by omega⟩
theorem su (k:Kd):id (decide (kdS k∈[Str.ofString "least",Str.ofString "more"]))=true:=by cases k<;>decide
theorem ny {s t:Say} (f:(Say.bo s t).few):s.few∧t.few:=by
 have h1:s.num * t.num≤4:=f.1
 have h2:s.long + t.long≤3:=f.2
 exact⟨⟨uD (Nat.le_mul_of_pos_right _ t.num_pos) h1,by omega⟩,⟨uD (Nat.le_mul_of_pos_left _ s.num_pos) h1,by omega⟩⟩
theorem nJ {s t:Say} (f:(Say.ei s t).few):s.few∧t.few:=by
 have h1:s.num + t.num≤4:=f.1
 have h2:max s.long t.long≤3:=f.2
 exact⟨⟨by omega,by omega⟩,⟨by omega,by omega⟩⟩
theorem i6 (a b:Nat):max (a:Int) (b:Int)=((max a b:Nat):Int):=by omega
inductive aK (n:Nat) (ds:List D) (R:D→Prop):Prop
 | mk (s:Say) (t:Bool) (hh:ds=[s.D,.bl t]∧s.dep≤n∧s.rows≤60∧R (.lst [.int (s.pl (!t)).num,.int (s.pl (!t)).long]))
theorem dH (n:Nat):∀ ds R,aK n ds R→ds.length=2:=fun _ _ ⟨_,_,e,_⟩=>by rw [e];rfl
theorem c7:∀ ds R,¬ aK 0 ds R:=fun _ _ ⟨s,_,_,h,_⟩=>by have:=s.dep_pos;omega
theorem a9:ar ["_law_saying_here","_law_so","_law_one","_law_long","_law_other","_law_longer"] ["_law_saying_here","_law_so"] (ah s__law_counts):=⟨rfl,rfl,rfl,by decide +kernel,rfl,by decide +kernel,by decide +kernel⟩
theorem eD (F:Fd K mg "_law_counts" s__law_counts ["_law_saying_here","_law_so"]) (eX:mg "max"=none) {n:Nat} (az:Cal P w K mg base (1 + n) "_law_counts" ["_law_saying_here","_law_so"] (spD K (aK n))):Cal P w K mg base (1 + n + 1) "_law_counts" ["_law_saying_here","_law_so"] (spD K (aK (n + 1))):=by
 refine fn_D (k:=1 + n) F a9 (dH (n + 1)) fun fa cdv A outer s H E ds R hr h=>?_
 have hU:=hr.units
 refine⟨_,(ag (bC (aO (o_in hU) (ao am (de_v 0) ae (fun _ _=>rfl)) (aQ (ac ay (ac ay af))) rfl) (aj (av (aQ (ac ae (ac ae af))))) aE) (ag (bC (aO (o_eq hU) (ao am (de_v 0) ae (fun _ _=>rfl)) ay (aw _)) (aj (av (ax az (hr.mono (by omega)) rfl (ac (ao am (de_v 0) ae (fun _ _=>rfl)) (ac (k8 (de_v 1)) af))))) aE) (ag (k7 (ax az (hr.mono (by omega)) rfl (ac (ao am (de_v 0) ae (fun _ _=>rfl)) (ac (de_v 1) af))) (kC (n:=2) rfl (bw (aG 2 a9.nd) (bw (aG 3 a9.nd) eM)))) (ag (k7 (ax az (hr.mono (by omega)) rfl (ac (ao am (de_v 0) ae (fun _ _=>rfl)) (ac (de_v 1) af))) (kC (n:=2) rfl (bw (aG 4 a9.nd) (bw (aG 5 a9.nd) eM)))) (ag (bC (aO (o_eq hU) (cp (o_eq hU) (ao am (de_v 0) ae (fun _ _=>rfl)) ay (aw _)) (de_v 1) (aw _)) (aj (av (aQ (ac (au dY (de_v 2) (de_v 4)) (ac (au aX (de_v 3) (de_v 5)) af))))) aE) (aj (av (aQ (ac (au aX (de_v 2) (de_v 4)) (ac (aV (mB rfl) rfl eX mI (ac (de_v 3) (ac (de_v 5) af))) af)))))))))),?_⟩
 obtain ⟨s,t,rfl,hd,hr,q⟩:=h
 have pb:∀ (x:Say) (b:Bool),x.rows≤60→Builtin.Int.intBits ((x.pl b).num:Int)≤64:=fun x b h=>jb _ x.rows (by have:=(Say.num_rows (x.pl b)).1;rwa [Say.pl_rows] at this) h
 cases s with
 | row k ts b =>
  unfold Say.D rowD
  walk_at "rd"
  exact⟨["least","more"],rfl,ifp (su k) (by cases t<;>exact q)⟩
 | nt s =>
  have hd:s.dep + 1≤n + 1:=hd
  unfold Say.D
  walk_at "rd"
  exact⟨["least","more"],rfl,ifn (by decide) ⟨s,!t,rfl,by omega,hr,q⟩⟩
 | bo s u =>
  have hd:max s.dep u.dep + 1≤n + 1:=hd
  have hr:s.rows + u.rows≤60:=hr
  unfold Say.D
  walk_at "rd"
  refine⟨["least","more"],rfl,ifn (by decide) (ifn (by decide) ⟨s,t,rfl,by omega,by omega,?_⟩)⟩
  walk_at "rd"
  refine⟨u,t,rfl,by omega,by omega,?_⟩
  walk_at "rd"
  cases t with
  | true=>exact ifp rfl ⟨IntMulOk.of_le (pb s false (by omega)) (pb u false (by omega)) (by decide),q⟩
  | false=>exact ifn (by decide) (by rw [i6];exact q)
 | ei s u =>
  have hd:max s.dep u.dep + 1≤n + 1:=hd
  have hr:s.rows + u.rows≤60:=hr
  unfold Say.D
  walk_at "rd"
  refine⟨["least","more"],rfl,ifn (by decide) (ifn (by decide) ⟨s,t,rfl,by omega,by omega,?_⟩)⟩
  walk_at "rd"
  refine⟨u,t,rfl,by omega,by omega,?_⟩
  walk_at "rd"
  cases t with
  | true=>exact ifn (by decide) (by rw [i6];exact q)
  | false=>exact ifp (by decide) ⟨IntMulOk.of_le (pb s true (by omega)) (pb u true (by omega)) (by decide),q⟩
inductive bY (ds:List D) (R:D→Prop):Prop
 | mk (k:Kd) (ts:List (Str×Int)) (b:Int) (t:Bool) (hh:ds=[rowD k ts b,.bl t]∧ts.length≤100∧R ((Say.row k ts b).pl (!t)).D)
theorem dB:∀ ds R,bY ds R→ds.length=2:=fun _ _ ⟨_,_,_,_,e,_⟩=>by rw [e];rfl
theorem cL:ar ["_law_row_here","_law_so","_law_terms"] ["_law_row_here","_law_so"] (ah s__law_turned):=⟨rfl,rfl,rfl,by decide +kernel,rfl,by decide +kernel,by decide +kernel⟩
theorem dZ (F:Fd K mg "_law_turned" s__law_turned ["_law_row_here","_law_so"]) (ck:mg "tuple"=none) (jG:mg "int"=none):Cal P w K mg base 1 "_law_turned" ["_law_row_here","_law_so"] (spD K bY):=by
 refine fn_D F cL dB fun fa cdv A outer s H E ds R hr h=>?_
 have hU:=hr.units
 refine⟨_,(ag (bC (bT (de_v 1)) (aj (av (de_v 0))) aE) (ag (aD 2 cL.nd (di lL rfl ck iG (ac (dr ["_law_name","_law_weight_here"] [] rfl rfl (by decide +kernel) rfl (by decide +kernel) (d3 trivial) (fu rfl) (cP trivial) (nG (ao am (de_v 0) ae (fun _ _=>rfl))) fun _ _ _ _ _=>⟨(nr (n:=2) rfl (bw (aG 0 (show List.Nodup (["_law_name","_law_weight_here"]:List Str) by decide +kernel)) (bw (aG 1 (show List.Nodup (["_law_name","_law_weight_here"]:List Str) by decide +kernel)) eM))),gI,(bB (ac (de_v 0) (ac (au pY ae (de_v 1)) af)))⟩) af))) (aj (av (bB (ac (ao am (aQ (ac ay (ac ay af))) (di sj rfl jG tz (ac (cp (o_eq hU) (ao am (de_v 0) ae (fun _ _=>rfl)) ay (aw _)) af)) (fun _ _=>rfl)) (ac (de_v 2) (ac (au pY ae (ao am (de_v 0) ae (fun _ _=>rfl))) af)))))))),?_⟩
 obtain ⟨k,ts,b,t,rfl,hl,q⟩:=h
 unfold rowD
 walk_at "rd"
 cases t with
 | true=>exact ifp rfl q
 | false =>
  refine ifn Bool.false_ne_true ⟨by rw [uA];omega,fun d=>match d with | .tup [.str n,.int w]=>some (.tup [.str n,.int (0 - w)]) | _=>none,fun x hx=>?_,?_⟩
  ·obtain ⟨t,_,rfl⟩:=uC.mp hx
   unfold tmD
   walk_at "rd"
  ·rw [aY _ tmD (fun t=>D.tup [.str t.1,.int (0 - t.2)]) _ (by intro _ _;rfl)]
   have q:R (conD k ts b):=q
   unfold conD rowD negT at q
   rw [List.map_map] at q
   simp only [Int.zero_sub]
   cases k with
   | least=>exact⟨_,at1,q⟩
   | more=>exact⟨_,at0,q⟩
inductive aS (n:Nat) (ds:List D) (R:D→Prop):Prop
 | mk (s:Say) (t:Bool) (names:List Str) (hh:ds=[s.D,.bl t]∧s.dep≤n∧s.ok names∧names.length≤60∧(s.pl (!t)).few∧R (csD (s.pl (!t)).cs))
theorem dN (n:Nat):∀ ds R,aS n ds R→ds.length=2:=fun _ _ ⟨_,_,_,e,_⟩=>by rw [e];rfl
theorem dD:∀ ds R,¬ aS 0 ds R:=fun _ _ ⟨s,_,_,_,h,_⟩=>by have:=s.dep_pos;omega
theorem a6:ar ["_law_saying_here","_law_so","_law_ones","_law_others","_law_found","_law_one"] ["_law_saying_here","_law_so"] (ah s__law_cases):=⟨rfl,rfl,rfl,by decide +kernel,rfl,by decide +kernel,by decide +kernel⟩
theorem e6 (F:Fd K mg "_law_cases" s__law_cases ["_law_saying_here","_law_so"]) (bW:Cal P w K mg base 1 "_law_turned" ["_law_row_here","_law_so"] (spD K (bY))) {n:Nat} (aJ:Cal P w K mg base (2 + n) "_law_cases" ["_law_saying_here","_law_so"] (spD K (aS n))):Cal P w K mg base (2 + n + 1) "_law_cases" ["_law_saying_here","_law_so"] (spD K (aS (n + 1))):=by
 refine fn_D (k:=2 + n) F a6 (dN (n + 1)) fun fa cdv A outer s H E ds R hr h=>?_
 have hU:=hr.units
 refine⟨_,(ag (bC (aO (o_in hU) (ao am (de_v 0) ae (fun _ _=>rfl)) (aQ (ac ay (ac ay af))) rfl) (aj (av (aQ (ac (aQ (ac (ax bW (hr.mono (by omega)) rfl (ac (de_v 0) (ac (de_v 1) af))) af)) af)))) aE) (ag (bC (aO (o_eq hU) (ao am (de_v 0) ae (fun _ _=>rfl)) ay (aw _)) (aj (av (ax aJ (hr.mono (by omega)) rfl (ac (ao am (de_v 0) ae (fun _ _=>rfl)) (ac (k8 (de_v 1)) af))))) aE) (ag (aD 2 a6.nd (ax aJ (hr.mono (by omega)) rfl (ac (ao am (de_v 0) ae (fun _ _=>rfl)) (ac (de_v 1) af)))) (ag (aD 3 a6.nd (ax aJ (hr.mono (by omega)) rfl (ac (ao am (de_v 0) ae (fun _ _=>rfl)) (ac (de_v 1) af)))) (ag (bC (aO (qB hU) (cp (o_eq hU) (ao am (de_v 0) ae (fun _ _=>rfl)) ay (aw _)) (de_v 1) (aw _)) (aj (av (au aX (de_v 2) (de_v 3)))) aE) (ag (aD 4 a6.nd (aQ af)) (ag (cS PassesOwn.never rfl (de_v 2) (aG 5 a6.nd) (aj (aD 4 a6.nd (au aX (de_v 4) (dr ["_law_other"] [(5,"_law_one")] rfl rfl (by decide +kernel) rfl (by decide +kernel) (d3 ⟨rfl,trivial⟩) (fu rfl) (cP ⟨⟨rfl,rfl,.inl rfl⟩,trivial⟩) (kS (de_v 3)) fun _ _ _ _ _=>⟨(aG 0 (show List.Nodup (["_law_other","_law_one"]:List Str) by decide +kernel)),gI,(au aX (de_v 1) (de_v 0))⟩))))) (aj (av (de_v 4)))))))))),?_⟩
 obtain ⟨s,t,names,rfl,hd,ok,hl,hf,q⟩:=h
 cases s with
 | row k ts b =>
  have hts:=gH ok.1
  unfold Say.D rowD
  walk_at "rd"
  exact⟨["least","more"],rfl,ifp (su k) ⟨k,ts,b,t,rfl,by omega,by cases t<;>exact q⟩⟩
 | nt s =>
  have hd:s.dep + 1≤n + 1:=hd
  unfold Say.D
  walk_at "rd"
  exact⟨["least","more"],rfl,ifn (by decide) ⟨s,!t,names,rfl,by omega,ok,hl,hf,q⟩⟩
 | bo s u =>
  have hd:max s.dep u.dep + 1≤n + 1:=hd
  have ff:(s.pl (!t)).few∧(u.pl (!t)).few:=by cases t<;>first | exact ny hf | exact nJ hf
  unfold Say.D
  walk_at "rd"
  refine⟨["least","more"],rfl,ifn (by decide) (ifn (by decide) ⟨s,t,names,rfl,by omega,ok.1,hl,ff.1,?_⟩)⟩
  refine⟨u,t,names,rfl,by omega,ok.2,hl,ff.2,?_⟩
  cases t with
  | true =>
   walk_at "rd"
   unfold csD at q ⊢
   generalize hA:(s.pl false).cs=A at *
   generalize hB:(u.pl false).cs=B at *
   have q:R (D.lst ((A.flatMap fun c=>B.map fun d=>c++d).map aP)):=by rw [← hA,← hB];exact q
   have l1:A.length≤4:=by rw [← hA,Say.cs_num Say.pl_pn];exact ff.1.1
   have l2:B.length≤4:=by rw [← hB,Say.cs_num Say.pl_pn];exact ff.2.1
   have c1:∀ c∈A,c.length≤3:=fun c hc=>by rw [← hA] at hc;exact uD (Say.cs_long Say.pl_pn c hc) ff.1.2
   have c2:∀ c∈B,c.length≤3:=fun c hc=>by rw [← hB] at hc;exact uD (Say.cs_long Say.pl_pn c hc) ff.2.2
   have fl:∀ i,((A.take i).flatMap fun c=>B.map fun d=>c++d).length≤16:=fun i=>by
    rw [cH,uX]
    exact Nat.mul_le_mul (show min i A.length≤4 by omega) l2
   simp only [gx]
   walk_at "rd"
   refine⟨fun i δ=>∃ x,δ=[.dat (.tup [.str  "both",s.D,u.D]),.dat (.bl true),.dat (.lst (A.map aP)),.dat (.lst (B.map aP)),.dat (.lst (((A.take i).flatMap fun c=>B.map fun d=>c++d).map aP)),x],⟨_,rfl⟩,?_,?_⟩
   ·rintro i d δ hd ⟨x,rfl⟩
    obtain ⟨c,hc,rfl⟩:=jg hd
    have hcl:=c1 c (uO hc)
    have hfl:=fl i
    walk_at "rd"
    refine⟨by rw [uA];omega,fun d=>match d with | .lst l=>some (.lst (c.map Say.D++l)) | _=>none,fun x hx=>?_,?_⟩
    ·obtain ⟨e,he,rfl⟩:=uC.mp hx
     have hel:=c2 e he
     unfold aP
     walk_at "rd"
     rw [uA,uA]
     omega
    ·rw [aY _ aP (fun d=>aP (c++d)) _ (by intro d _;show some (D.lst (c.map Say.D++d.map Say.D))=some (D.lst ((c++d).map Say.D));rw [uQ])]
     rw [cA hc,List.flatMap_append,List.flatMap_singleton,uQ,List.map_map]
     exact⟨by rw [uA,uA];omega,rfl⟩
   ·rintro δ ⟨x,rfl⟩
    rw [uA,uR]
    walk_at "rd"
    exact q
  | false =>
   walk_at "rd"
   unfold csD
   walk_at "rd"
   have l1:(s.pl true).cs.length≤4:=by rw [Say.cs_num Say.pl_pn];exact ff.1.1
   have l2:(u.pl true).cs.length≤4:=by rw [Say.cs_num Say.pl_pn];exact ff.2.1
   have q:R (D.lst (((s.pl true).cs++(u.pl true).cs).map aP)):=q
   rw [uQ] at q
   exact⟨by rw [uA,uA];omega,q⟩
 | ei s u =>
  have hd:max s.dep u.dep + 1≤n + 1:=hd
  have ff:(s.pl (!t)).few∧(u.pl (!t)).few:=by cases t<;>first | exact ny hf | exact nJ hf
  unfold Say.D
  walk_at "rd"
  refine⟨["least","more"],rfl,ifn (by decide) (ifn (by decide) ⟨s,t,names,rfl,by omega,ok.1,hl,ff.1,?_⟩)⟩
  refine⟨u,t,names,rfl,by omega,ok.2,hl,ff.2,?_⟩
  cases t with
  | true =>
   walk_at "rd"
   refine ifp (by decide) ?_
   unfold csD
   walk_at "rd"
   have l1:(s.pl false).cs.length≤4:=by rw [Say.cs_num Say.pl_pn];exact ff.1.1
   have l2:(u.pl false).cs.length≤4:=by rw [Say.cs_num Say.pl_pn];exact ff.2.1
   have q:R (D.lst (((s.pl false).cs++(u.pl false).cs).map aP)):=q
   rw [uQ] at q
   exact⟨by rw [uA,uA];omega,q⟩
  | false =>
   walk_at "rd"
   refine ifn (by decide) ?_
   unfold csD at q ⊢
   generalize hA:(s.pl true).cs=A at *
   generalize hB:(u.pl true).cs=B at *
   have q:R (D.lst ((A.flatMap fun c=>B.map fun d=>c++d).map aP)):=by rw [← hA,← hB];exact q
   have l1:A.length≤4:=by rw [← hA,Say.cs_num Say.pl_pn];exact ff.1.1
   have l2:B.length≤4:=by rw [← hB,Say.cs_num Say.pl_pn];exact ff.2.1
   have c1:∀ c∈A,c.length≤3:=fun c hc=>by rw [← hA] at hc;exact uD (Say.cs_long Say.pl_pn c hc) ff.1.2
   have c2:∀ c∈B,c.length≤3:=fun c hc=>by rw [← hB] at hc;exact uD (Say.cs_long Say.pl_pn c hc) ff.2.2
   have fl:∀ i,((A.take i).flatMap fun c=>B.map fun d=>c++d).length≤16:=fun i=>by
    rw [cH,uX]
    exact Nat.mul_le_mul (show min i A.length≤4 by omega) l2
   simp only [gx]
   walk_at "rd"
   refine⟨fun i δ=>∃ x,δ=[.dat (.tup [.str  "either",s.D,u.D]),.dat (.bl false),.dat (.lst (A.map aP)),.dat (.lst (B.map aP)),.dat (.lst (((A.take i).flatMap fun c=>B.map fun d=>c++d).map aP)),x],⟨_,rfl⟩,?_,?_⟩
   ·rintro i d δ hd ⟨x,rfl⟩
    obtain ⟨c,hc,rfl⟩:=jg hd
    have hcl:=c1 c (uO hc)
    have hfl:=fl i
    walk_at "rd"
    refine⟨by rw [uA];omega,fun d=>match d with | .lst l=>some (.lst (c.map Say.D++l)) | _=>none,fun x hx=>?_,?_⟩
    ·obtain ⟨e,he,rfl⟩:=uC.mp hx
     have hel:=c2 e he
     unfold aP
     walk_at "rd"
     rw [uA,uA]
     omega
    ·rw [aY _ aP (fun d=>aP (c++d)) _ (by intro d _;show some (D.lst (c.map Say.D++d.map Say.D))=some (D.lst ((c++d).map Say.D));rw [uQ])]
     rw [cA hc,List.flatMap_append,List.flatMap_singleton,uQ,List.map_map]
     exact⟨by rw [uA,uA];omega,rfl⟩
   ·rintro δ ⟨x,rfl⟩
    rw [uA,uR]
    walk_at "rd"
    exact q
inductive bE (ds:List D) (R:D→Prop):Prop
 | mk (s:Say) (names:List Str) (hh:ds=[s.D]∧s.dep≤60∧s.ok names∧names.length≤100∧¬ (s.pl false).few∧R (.exn "TooMany" "saying" s.D))
theorem dj:∀ ds R,bE ds R→ds.length=1:=fun _ _ ⟨_,_,e,_⟩=>by rw [e];rfl
theorem bP:ar ["_law_saying_here","_law_caught_here","_law_e"] ["_law_saying_here"] (ah s__law_caught):=⟨rfl,rfl,rfl,by decide +kernel,rfl,by decide +kernel,by decide +kernel⟩
theorem d6 (F:Fd K mg "_law_caught" s__law_caught ["_law_saying_here"]) {R NR:Addr} (er:Er P w K mg base R NR) (cW:CalE P w K mg base 64 "cases" ["saying"] (fR)):Cal P w K mg base 65 "_law_caught" ["_law_saying_here"] (spD K bE):=by
 refine fn_D F bP dj fun fa cdv A outer s H E ds R hr h=>?_
 have hU:=hr.units
 refine⟨_,(ag (aD 1 bP.nd qK) (ag (tj (cs:=bK) 1 2 ⟨rfl,rfl⟩ bP.nd (by decide) rfl er.mR er.un fun pins E=>(aj (m8 cW (rm hr) rfl (ac (de_v 0) af)))) (aj (av (de_v 1))))),?_⟩
 obtain ⟨s,names,rfl,hd,ok,hl,hf,q⟩:=h
 walk_at "rd"
 exact⟨s,names,rfl,hd,ok,hl,fun f=>absurd f hf,fun _=>⟨by decide,q⟩⟩
theorem kA:∀ ts:List (Str×Int),DL.D.ims (ts.map tmD)=true
 | []=>rfl
 | t :: r=>by rw [List.map_cons];unfold DL.D.ims;rw [kA r];rfl
theorem Say.im:∀ s:Say,DL.D.ims s.args=true
 | .row k ts b=>by
  show (true && (DL.D.ims (ts.map tmD) && (true && true)))=true
  rw [kA];rfl
 | .nt s=>by
  show (true && (DL.D.im s.D && true))=true
  rw [s.D_args];show (true && (DL.D.ims s.args && true))=true
  rw [Say.im s];rfl
 | .bo s t=>by
  show (true && (DL.D.im s.D && (DL.D.im t.D && true)))=true
  rw [s.D_args,t.D_args];show (true && (DL.D.ims s.args && (DL.D.ims t.args && true)))=true
  rw [Say.im s,Say.im t];rfl
 | .ei s t=>by
  show (true && (DL.D.im s.D && (DL.D.im t.D && true)))=true
  rw [s.D_args,t.D_args];show (true && (DL.D.ims s.args && (DL.D.ims t.args && true)))=true
  rw [Say.im s,Say.im t];rfl
theorem Say.cs_rows:∀ (s:Say) (c:List Say),c∈s.cs→∀ u∈c,u.dep=1
 | .row k ts b,c,hc,u,hu=>by rw [uP.mp hc] at hu;rw [uP.mp hu];rfl
 | .nt _,c,hc,u,hu=>nomatch hc
 | .bo s t,c,hc,u,hu=>by
  obtain ⟨x,hx,hy⟩:=List.mem_flatMap.mp hc
  obtain ⟨y,hz,rfl⟩:=uC.mp hy
  rcases uJ.mp hu with hu | hu
  ·exact Say.cs_rows s x hx u hu
  ·exact Say.cs_rows t y hz u hu
 | .ei s t,c,hc,u,hu=>by
  rcases uJ.mp hc with hc | hc
  ·exact Say.cs_rows s c hc u hu
  ·exact Say.cs_rows t c hc u hu
theorem l8:∀ c:List Say,DL.D.nds (c.map Say.D)=true
 | []=>rfl
 | u :: r=>by
  show (DL.D.nd u.D && DL.D.nds (r.map Say.D))=true
  rw [l8 r,u.D_args];show (DL.D.nds u.args && true)=true
  rw [u.nds];rfl
theorem ly:∀ c:List Say,(∀ u∈c,u.dep=1)→DL.D.dps (c.map Say.D)≤3
 | [],_=>Nat.zero_le _
 | u :: r,h=>by
  have h1:=ly r fun x hx=>h x (uB _ hx)
  have h2:=u.dps
  rw [h u (uF ..)] at h2
  show max (DL.D.dp u.D) (DL.D.dps (r.map Say.D))≤3
  rw [u.D_args];show max (DL.D.dps u.args + 1) (DL.D.dps (r.map Say.D))≤3
  omega
theorem pj:∀ cs:List (List Say),DL.D.nds (cs.map aP)=true
 | []=>rfl
 | c :: r=>by
  show (DL.D.nds (c.map Say.D) && DL.D.nds (r.map aP))=true
  rw [l8,pj r];rfl
theorem rA:∀ cs:List (List Say),(∀ c∈cs,∀ u∈c,u.dep=1)→DL.D.dps (cs.map aP)≤4
 | [],_=>Nat.zero_le _
 | c :: r,h=>by
  have h1:=rA r fun x hx=>h x (uB _ hx)
  have h2:=ly c (h c (uF ..))
  show max (DL.D.dps (c.map Say.D) + 1) (DL.D.dps (r.map aP))≤4
  omega
inductive cQ (ds:List D) (R:D→Prop):Prop
 | mk (s:Say) (names:List Str) (hh:ds=[s.D]∧s.dep≤59∧s.ok names∧names.length≤60∧s.rows≤60∧R (.bl true))
theorem eK:∀ ds R,cQ ds R→ds.length=1:=fun _ _ ⟨_,_,e,_⟩=>by rw [e];rfl
theorem bd:ar ["_law_saying_here","_law_many","_law_long","_law_e","_law_due","_law_found","_law_one"] ["_law_saying_here"] (ah s__law_good):=⟨rfl,rfl,rfl,by decide +kernel,rfl,by decide +kernel,by decide +kernel⟩
theorem fO (F:Fd K mg "_law_good" s__law_good ["_law_saying_here"]) {R NR:Addr} (er:Er P w K mg base R NR) (az:Cal P w K mg base 61 "_law_counts" ["_law_saying_here","_law_so"] (spD K (aK 60))) (ce:Cal P w K mg base 65 "_law_caught" ["_law_saying_here"] (spD K (bE))) (aJ:Cal P w K mg base 62 "_law_cases" ["_law_saying_here","_law_so"] (spD K (aS 60))) (cW:CalE P w K mg base 64 "cases" ["saying"] (fR)) (aZ:mg "isinstance"=none) (cq:mg "ValueError"=none) (ji:mg "list"=none) (bJ:mg "len"=none):Cal P w K mg base 66 "_law_good" ["_law_saying_here"] (spD K cQ):=by
 refine fn_D F bd eK fun fa cdv A outer s H E ds R hr h=>?_
 have hU:=hr.units
 refine⟨_,(ag (k7 (ax az (rm hr) rfl (ac (de_v 0) (ac kl af))) (kC (n:=2) rfl (bw (aG 1 bd.nd) (bw (aG 2 bd.nd) eM)))) (ag (bC (DW.dt (jY (aO o_gt (de_v 1) ae (aw _)) (fq (aO o_gt (de_v 2) ae (aw _))))) (ag (aD 3 bd.nd (ax ce (rm hr) rfl (ac (de_v 0) af))) (ag (bC (DW.dt (jY (gM (bT (oQ er.tab rfl aZ rfl er.a_t (de_v 3)))) (fq (bT (oO er.tab rfl aZ rfl rfl er.an er.aq (de_v 3)))))) (aj (av kl)) aE) (aj (av (gv (oq er.tab rfl aZ rfl cq (de_v 3)) (fA (cp (o_eq hU) (ux er.tab (de_v 3)) (de_v 0) (aw _)))))))) aE) (ag (aD 4 bd.nd (ax aJ (rm hr) rfl (ac (de_v 0) (ac kl af)))) (n5 5 6 PassesOwn.never rfl bd.nd (by decide) cW.pure (rm hr) rfl (ac (de_v 0) af) (DW.dt (jY (gM (bT (nF kQ rfl aZ rfl ji nU (de_v 5)))) (fq (aO (qB hU) (de_v 5) (de_v 4) (aw _))))) (aO o_gt (aV gG rfl bJ eC (ac (dr ["_law_one"] [] rfl rfl (by decide +kernel) rfl (by decide +kernel) (d3 trivial) (fu rfl) (cP trivial) (kS (de_v 5)) fun _ _ _ _ _=>⟨(aG 0 (show List.Nodup (["_law_one"]:List Str) by decide +kernel)),(rG (gM (bT (nF kQ rfl aZ rfl ji nU (de_v 0))))),(de_v 0)⟩) af)) ae (aw _)) (aj (av (cp (o_eq hU) (ax cW.pure (rm hr) rfl (ac (de_v 0) af)) (de_v 4) (aw _)))))))),?_⟩
 obtain ⟨s,names,rfl,hd,ok,hl,hr,q⟩:=h
 walk_at "rd"
 refine⟨s,true,rfl,by omega,hr,?_⟩
 walk_at "rd"
 have ca:∀ {Q:D→Prop},¬ (s.pl false).few→Q (.exn "TooMany" "saying" s.D)→bE [s.D] Q:=fun h q=>⟨s,names,rfl,by omega,ok,by omega,h,q⟩
 refine ite2 (fun h4=>ca (fun f=>?_) ⟨true,rfl,ifn (by decide) ⟨false,rfl,ifn (by decide) ⟨true,rfl,ifp rfl ⟨_,_,rfl,by decide,nQ rfl (by omega) q⟩⟩⟩⟩) fun h4 =>
  ite2 (fun h3=>ca (fun f=>?_) ⟨true,rfl,ifn (by decide) ⟨false,rfl,ifn (by decide) ⟨true,rfl,ifp rfl ⟨_,_,rfl,by decide,nQ rfl (by omega) q⟩⟩⟩⟩) fun h3=>?_
 ·have:=f.1
  omega
 ·have:=f.2
  omega
 have hf:(s.pl false).few:=⟨by omega,by omega⟩
 refine⟨s,true,names,rfl,by omega,ok,hl,hf,?_⟩
 simp only [Bool.not_true]
 generalize hcs:(s.pl false).cs=cs
 unfold csD
 simp only [dScr]
 walk_at "rd"
 have hdp:D.dps (cs.map aP)≤60:=uD (rA cs fun c hc=>by rw [← hcs] at hc;exact Say.cs_rows _ c hc) (by decide)
 have l4:cs.length≤4:=by rw [← hcs,Say.cs_num Say.pl_pn];exact hf.1
 have him:D.ims [s.D]=true:=by
  show (D.im s.D && true)=true
  rw [s.D_args]
  show (D.ims s.args && true)=true
  rw [s.im];rfl
 refine⟨rfl,him,s,names,rfl,by omega,ok,by omega,fun _=>?_,fun h=>absurd hf h⟩
 rw [hcs]
 unfold csD
 refine⟨⟨cs.map fun c=>c.map Say.D,by rw [List.map_map];rfl⟩,trivial,ifn (fun z=>nomatch z) ?_⟩
 walk_at "rd"
 refine⟨pj cs,hdp,by rw [uA];omega,fun _=>none,fun x hx=>?_,?_,s,names,rfl,by omega,ok,by omega,fun _=>?_,fun h=>absurd hf h⟩
 ·obtain ⟨c,_,rfl⟩:=uC.mp hx
  exact⟨trivial,ifn (fun z=>nomatch z) rfl⟩
 ·have e:(cs.map aP).filterMap (fun _=>(none:Option D))=[]:=by
   generalize cs.map aP=l
   induction l with
   | nil=>rfl
   | cons x r ih=>exact ih
  rw [e]
  decide
 ·rw [hcs]
  unfold csD
  exact .inl ⟨⟨rfl,pj cs,hdp⟩,q⟩
theorem lp:ar ["_law_script","_law_names_here","_law_small"] ["_law_script"] (ah s_law):=⟨rfl,rfl,rfl,by decide +kernel,rfl,by decide +kernel,by decide +kernel⟩
theorem qr {fa:Addr} {fd:FuncData} (F:Fun K "law" "law" s_law fa fd) (cz:Cal P w K mg base 1 "_law_names" ["_law_cell_here"] (spD K (cw))) (cT:Cal P w K mg base 1 "_law_cell" ["_law_script","_law_k"] (spD K (cV))) (bZ:Cal P w K mg base 5 "_law_saying" ["_law_cells","_law_names_here"] (spD K (cm))) (bc:Cal P w K mg base 66 "_law_good" ["_law_saying_here"] (spD K (cQ))) (cO:Cal P w K mg base 4 "_law_wild" ["_law_cells","_law_names_here"] (spD K (cN))):FnOk P w K mg base CX0 67 fa fd ["_law_script"] (spD K fLaw):=by
 refine rP F lp (fun ds R ⟨ns,e,_⟩=>by rw [e];rfl) fun cdv A outer s H E ds R hr h=>?_
 have hU:=hr.units
 refine⟨_,(ag (aD 1 lp.nd (ax cz (rm hr) rfl (ac (ax cT (rm hr) rfl (ac (de_v 0) (ac ae af))) af))) (ag (aD 2 lp.nd (ax bZ (rm hr) rfl (ac (gJ (de_v 0) (cU ae) (cU ae)) (ac (de_v 1) af)))) (ag (bC (DW.dt (jY (gM (bT (ax bc (rm hr) rfl (ac (de_v 2) af)))) (fq (gM (bT (ax bc (rm hr) rfl (ac (bB (ac ay (ac (bB (ac ay (ac (de_v 2) af))) af))) af))))))) (aj (av kl)) aE) (aj (av (gv (ax bc (rm hr) rfl (ac (ax cO (rm hr) rfl (ac (gJ (de_v 0) (cU ae) (cU ae)) (ac (de_v 1) af))) af)) (gv (ax bc (rm hr) rfl (ac (bB (ac ay (ac (de_v 2) af))) af)) (fA (ax bc (rm hr) rfl (ac (bB (ac ay (ac (de_v 2) (ac (de_v 2) af)))) af)))))))))),?_⟩
 obtain ⟨ns,rfl,h63,hb,q⟩:=h
 walk_at "rd"
 have cb:∀ k,Builtin.Int.intBits (eB ns k)≤1048576:=fun k=>kr hb k
 refine⟨ns,0,rfl,by decide,?_⟩
 refine⟨_,rfl,cb 0,fun names nm=>?_⟩
 have l4:=nm.len
 have l24:(cut ns (some 1) (some 25)).length≤24:=om 1 25
 have mem:∀ c∈cut ns (some 1) (some 25),Builtin.Int.intBits c≤1048576:=fun c h=>hb c (qC h)
 simp only [oF]
 generalize cut ns (some 1) (some 25)=cs at l24 mem ⊢
 refine⟨cs,names,rfl,by omega,mem,by omega,fun s ok dp fw=>?_⟩
 have hrw:s.rows≤12:=by
  have:=Say.rows_num (s:=s.pl false) Say.pl_pn
  rw [Say.pl_rows] at this
  exact uD this (Nat.mul_le_mul fw.1 fw.2)
 refine⟨s,names,rfl,by omega,ok,by omega,by omega,?_⟩
 walk_at "rd"
 refine⟨.nt (.nt s),names,rfl,by show s.dep + 1 + 1≤59;omega,ok,by omega,by show s.rows≤60;omega,?_⟩
 walk_at "rd"
 refine⟨cs,names,rfl,by omega,mem,by omega,fun u ou du ru=>?_⟩
 refine⟨u,names,rfl,by omega,ou,by omega,by omega,?_⟩
 walk_at "rd"
 refine⟨.nt s,names,rfl,by show s.dep + 1≤59;omega,ok,by omega,by show s.rows≤60;omega,?_⟩
 walk_at "rd"
 exact⟨.bo s s,names,rfl,by show max s.dep s.dep + 1≤59;omega,⟨ok,ok⟩,by omega,by show s.rows + s.rows≤60;omega,q⟩
theorem eZ:j9 P w K mg base "NoQuotient.__init__" "top" "top" false i_NoQuotient:=fun R C fI fd F ek rk m=>F.ok (N:=["self","top"]) ⟨rfl,rfl,rfl,by decide +kernel,rfl,by decide +kernel,by decide +kernel⟩ iP fun cdv A outer s H vs Q E hr h=>⟨_,bG (cY (iF rk ek rfl m (aI (a8 (i:=0) rfl (.inl rfl)) (aI jf bS)))) (dn (iS ek (a8 (i:=0) rfl (.inl rfl)) (a8 (i:=1) rfl (.inl rfl)))),lR h⟩
theorem eQ:IniB "NoQuotient.__init__" "top" i_NoQuotient:=fun _ _ _ _ _ _ us hl=>match us,hl with | [_,_],_=>rfl
theorem jt:j9 P w K mg base "NoName.__init__" "name" "name" true i_NoName:=fun R C fI fd F ek rk m=>F.ok (N:=["self","name"]) ⟨rfl,rfl,rfl,by decide +kernel,rfl,by decide +kernel,by decide +kernel⟩ iP fun cdv A outer s H vs Q E hr h=>⟨_,bG (cY (iF rk ek rfl m (aI (a8 (i:=0) rfl (.inl rfl)) (aI (n8 (a8 (i:=1) rfl (.inl rfl))) bS)))) (dn (iS ek (a8 (i:=0) rfl (.inl rfl)) (a8 (i:=1) rfl (.inl rfl)))),ms h⟩
theorem jZ:IniB "NoName.__init__" "name" i_NoName:=fun _ _ _ _ _ _ us hl=>match us,hl with | [_,_],_=>rfl
theorem iw:j9 P w K mg base "TooMany.__init__" "saying" "saying" false i_TooMany:=fun R C fI fd F ek rk m=>F.ok (N:=["self","saying"]) ⟨rfl,rfl,rfl,by decide +kernel,rfl,by decide +kernel,by decide +kernel⟩ iP fun cdv A outer s H vs Q E hr h=>⟨_,bG (cY (iF rk ek rfl m (aI (a8 (i:=0) rfl (.inl rfl)) (aI jf bS)))) (dn (iS ek (a8 (i:=0) rfl (.inl rfl)) (a8 (i:=1) rfl (.inl rfl)))),lR h⟩
theorem gY:IniB "TooMany.__init__" "saying" i_TooMany:=fun _ _ _ _ _ _ us hl=>match us,hl with | [_,_],_=>rfl
theorem all_mk {l:PySem.W.OpenLaw} {w:World} {K:PySem.W.Frag} {h:Heap} {mg:Str→Option Value} {fa f:Addr} (X:K.In h) (G:h.Ns mainGlobals mg) (hfa:mg "law"=some (.ref fa))
  {od an:Option Addr} {sl:Array (Option Value)} {oc kV dc pm cd ct:Value}
  (q0:FdK K "_law_purse" s__law_purse)
  (q1:FdK K "_law_take" s__law_take)
  (q2:FdK K "_law_weight" s__law_weight)
  (q3:FdK K "_law_names" s__law_names)
  (q4:FdK K "_law_row" s__law_row)
  (q5:FdK K "is_row" s_is_row)
  (q6:FdK K "_law_cell" s__law_cell)
  (q7:FdK K "_law_wild" s__law_wild)
  (q8:FdK K "contrary" s_contrary)
  (q9:FdK K "plain_part" s_plain_part)
  (q10:FdK K "plain" s_plain)
  (q11:FdK K "put_together" s_put_together)
  (q12:FdK K "cases_within" s_cases_within)
  (q13:FdK K "cases" s_cases)
  (q14:FdK K "_law_joined" s__law_joined)
  (q15:FdK K "_law_fits" s__law_fits)
  (q16:FdK K "_law_grown" s__law_grown)
  (q17:FdK K "_law_saying" s__law_saying)
  (q18:FdK K "_law_counts" s__law_counts)
  (q19:FdK K "_law_turned" s__law_turned)
  (q20:FdK K "_law_cases" s__law_cases)
  (q21:FdK K "_law_caught" s__law_caught)
  (q22:FdK K "_law_good" s__law_good)
  (a:PySem.W.nsIn K mainGlobals "law"=some (some (.ref f))) (l1:K.lookup f=some ⟨oc,od,.func (PySem.W.fnOf "law" "law" (ba s_law) (aM s_law) (ah s_law) .none kV dc pm an cd ct),sl⟩) (c:PySem.W.codeIn K cd "law"=true) (k:PySem.W.keepIn K (.ref f)=true)
  (z0:PySem.W.nsIn K mainGlobals "range"=some none)
  (z1:PySem.W.nsIn K mainGlobals "abs"=some none)
  (z2:PySem.W.nsIn K mainGlobals "int"=some none)
  (z3:PySem.W.nsIn K mainGlobals "sorted"=some none)
  (z4:PySem.W.nsIn K mainGlobals "tuple"=some none)
  (z5:PySem.W.nsIn K mainGlobals "len"=some none)
  (z6:PySem.W.nsIn K mainGlobals "max"=some none)
  (z7:PySem.W.nsIn K mainGlobals "isinstance"=some none)
  (z8:PySem.W.nsIn K mainGlobals "ValueError"=some none)
  (z9:PySem.W.nsIn K mainGlobals "list"=some none)
  {ga_OPPOSITES:Addr} (gi_OPPOSITES:PySem.W.nsIn K mainGlobals "OPPOSITES"=some (some (.ref ga_OPPOSITES))) (gl_OPPOSITES:PyProof.Rows.KTD.tabLook (PyProof.Rows.KTD.datLooks fun b=>K.lookup b) (fun b=>K.lookup b) ga_OPPOSITES (txt [("least","more"),("more","least"),("both","either"),("either","both")])=true)
  {ga_MOST_ROWS:Tok} (gi_MOST_ROWS:PySem.W.nsIn K mainGlobals "MOST_ROWS"=some (some (.int 3 ga_MOST_ROWS)))
  {ga_MOST_CASES:Tok} (gi_MOST_CASES:PySem.W.nsIn K mainGlobals "MOST_CASES"=some (some (.int 4 ga_MOST_CASES)))
  (ef:ErF K i_NoQuotient i_NoName i_TooMany)
  : ∃ fd:FuncData,(∀ (s:Shared) (v:Value),BindsTo s fd ⟨[v],[]⟩ [("_law_script",v)])∧∀ base:Heap,K.In base→base.Ns mainGlobals mg→FnOk l.prog w K mg base CX0 67 fa fd ["_law_script"] (pD K):=by
 have e:=hfa.symm.trans (PySem.W.mg_of X G a)
 cases e
 have dm:=PySem.W.mg_none_of X G z0
 have qh:=PySem.W.mg_none_of X G z1
 have jG:=PySem.W.mg_none_of X G z2
 have f9:=PySem.W.mg_none_of X G z3
 have ck:=PySem.W.mg_none_of X G z4
 have bJ:=PySem.W.mg_none_of X G z5
 have eX:=PySem.W.mg_none_of X G z6
 have aZ:=PySem.W.mg_none_of X G z7
 have cq:=PySem.W.mg_none_of X G z8
 have ji:=PySem.W.mg_none_of X G z9
 have g_OPPOSITES:GTab K mg "OPPOSITES" [("least","more"),("more","least"),("both","either"),("either","both")]:=⟨⟨_,PySem.W.mg_of X G gi_OPPOSITES,gl_OPPOSITES⟩⟩
 have g_MOST_ROWS:GInt mg "MOST_ROWS" 3:=⟨⟨_,PySem.W.mg_of X G gi_MOST_ROWS⟩⟩
 have g_MOST_CASES:GInt mg "MOST_CASES" 4:=⟨⟨_,PySem.W.mg_of X G gi_MOST_CASES⟩⟩
 have F:=nL (st:=s_law) l1 c k
 refine⟨PySem.W.fnOf "law" "law" (ba s_law) (aM s_law) (ah s_law) .none kV dc pm an cd ct,fun s v=>.of_eq rfl,fun base _ _=>?_⟩
 obtain ⟨R,NR,er⟩:=ef.er (P:=l.prog) (w:=w) (base:=base) X G eZ eQ jt jZ iw gY
 have cC:=e7 (P:=l.prog) (w:=w) (base:=base) (q0.fd1 X G fun _ _ _ _ _ _ _=>rfl) dm qh
 have a4:=fG (P:=l.prog) (w:=w) (base:=base) (q1.fd2 X G fun _ _ _ _ _ _ _ _=>rfl) jG
 have bD:=eN (P:=l.prog) (w:=w) (base:=base) (q2.fd1 X G fun _ _ _ _ _ _ _=>rfl) a4
 have cz:=eT (P:=l.prog) (w:=w) (base:=base) (q3.fd1 X G fun _ _ _ _ _ _ _=>rfl) f9 dm
 have aT:=gQ (P:=l.prog) (w:=w) (base:=base) (q4.fd2 X G fun _ _ _ _ _ _ _ _=>rfl) cC bD a4 ck
 have cF:=jC (P:=l.prog) (w:=w) (base:=base) (q5.fd1 X G fun _ _ _ _ _ _ _=>rfl)
 have cT:=fJ (P:=l.prog) (w:=w) (base:=base) (q6.fd2 X G fun _ _ _ _ _ _ _ _=>rfl) bJ
 have cO:=f6 (P:=l.prog) (w:=w) (base:=base) (q7.fd2 X G fun _ _ _ _ _ _ _ _=>rfl) aT bJ
 have dl:=gl (P:=l.prog) (w:=w) (base:=base) (q8.fd1 X G fun _ _ _ _ _ _ _=>rfl) ck g_OPPOSITES
 have aL:∀ n,Cal l.prog w K mg base (2 + n) "plain_part" ["saying","turned"] (spD K (aR n)):=fun n=>Nat.rec (motive:=fun n=>Cal l.prog w K mg base (2 + n) "plain_part" ["saying","turned"] (spD K (aR n))) (fY (q9.fd2 X G fun _ _ _ _ _ _ _ _=>rfl) _ dk) (fun n ih=>eS (P:=l.prog) (w:=w) (base:=base) (q9.fd2 X G fun _ _ _ _ _ _ _ _=>rfl) cF dl g_OPPOSITES ih) n
 have aL:Cal l.prog w K mg base 62 "plain_part" ["saying","turned"] (spD K (aR 60)):=aL 60
 have iV:=kq (P:=l.prog) (w:=w) (base:=base) (q10.fd1 X G fun _ _ _ _ _ _ _=>rfl) aL
 have bR:=dP (P:=l.prog) (w:=w) (base:=base) (q11.fd2 X G fun _ _ _ _ _ _ _ _=>rfl)
 have aC:∀ n,CalE l.prog w K mg base (3 + n) "cases_within" ["part","whole"] (aA n):=fun n=>Nat.rec (motive:=fun n=>CalE l.prog w K mg base (3 + n) "cases_within" ["part","whole"] (aA n)) (k9 (q12.fd2 X G fun _ _ _ _ _ _ _ _=>rfl) _ cX) (fun n ih=>dM (P:=l.prog) (w:=w) (base:=base) (q12.fd2 X G fun _ _ _ _ _ _ _ _=>rfl) er cF bR eX bJ g_MOST_ROWS g_MOST_CASES ih) n
 have aC:CalE l.prog w K mg base 63 "cases_within" ["part","whole"] (aA 60):=aC 60
 have cW:=lY (P:=l.prog) (w:=w) (base:=base) (q13.fd1 X G fun _ _ _ _ _ _ _=>rfl) aC iV
 have a5:=d4 (P:=l.prog) (w:=w) (base:=base) (q14.fd3 X G fun _ _ _ _ _ _ _ _ _=>rfl) eX
 have bv:=fM (P:=l.prog) (w:=w) (base:=base) (q15.fd1 X G fun _ _ _ _ _ _ _=>rfl)
 have cB:=eV (P:=l.prog) (w:=w) (base:=base) (q16.fd3 X G fun _ _ _ _ _ _ _ _ _=>rfl) a5 bv aT bJ
 have bZ:=ee (P:=l.prog) (w:=w) (base:=base) (q17.fd2 X G fun _ _ _ _ _ _ _ _=>rfl) aT cB a5 bv bJ
 have az:∀ n,Cal l.prog w K mg base (1 + n) "_law_counts" ["_law_saying_here","_law_so"] (spD K (aK n)):=fun n=>Nat.rec (motive:=fun n=>Cal l.prog w K mg base (1 + n) "_law_counts" ["_law_saying_here","_law_so"] (spD K (aK n))) (fY (q18.fd2 X G fun _ _ _ _ _ _ _ _=>rfl) _ c7) (fun n ih=>eD (P:=l.prog) (w:=w) (base:=base) (q18.fd2 X G fun _ _ _ _ _ _ _ _=>rfl) eX ih) n
 have az:Cal l.prog w K mg base 61 "_law_counts" ["_law_saying_here","_law_so"] (spD K (aK 60)):=az 60
 have bW:=dZ (P:=l.prog) (w:=w) (base:=base) (q19.fd2 X G fun _ _ _ _ _ _ _ _=>rfl) ck jG
 have aJ:∀ n,Cal l.prog w K mg base (2 + n) "_law_cases" ["_law_saying_here","_law_so"] (spD K (aS n)):=fun n=>Nat.rec (motive:=fun n=>Cal l.prog w K mg base (2 + n) "_law_cases" ["_law_saying_here","_law_so"] (spD K (aS n))) (fY (q20.fd2 X G fun _ _ _ _ _ _ _ _=>rfl) _ dD) (fun n ih=>e6 (P:=l.prog) (w:=w) (base:=base) (q20.fd2 X G fun _ _ _ _ _ _ _ _=>rfl) bW ih) n
 have aJ:Cal l.prog w K mg base 62 "_law_cases" ["_law_saying_here","_law_so"] (spD K (aS 60)):=aJ 60
 have ce:=d6 (P:=l.prog) (w:=w) (base:=base) (q21.fd1 X G fun _ _ _ _ _ _ _=>rfl) er cW
 have bc:=fO (P:=l.prog) (w:=w) (base:=base) (q22.fd1 X G fun _ _ _ _ _ _ _=>rfl) er az ce aJ cW aZ cq ji bJ
 exact sv (qr F cz cT bZ bc cO)
end Lw
open PySem PySem.W PyProof.Rows
theorem PySem.Challenge.cw_rowbetween_k16_cases_holds : PySem.Challenge.rw_rowbetween_k16_cases.Holds := by
 refine Hd.half fun YP d K hY hdf hdn f=>?_
 refine DL.walkB (l:=PySem.Challenge.rw_rowbetween_k16_cases) (k:=67) (x:="_law_script") rfl hdf ⟨rfl,by decide,by decide⟩ hY fun w mg fa h KX G hmg=>?_
 rw [hdn] at hmg
 obtain ⟨⟨_,_,_,_,_,_,_,_,_,_,a,l1,c,k⟩⟩:=(f w).q23
 obtain ⟨_,gi_OPPOSITES,gl_OPPOSITES⟩:=(f w).g_OPPOSITES
 obtain ⟨_,gi_MOST_ROWS⟩:=(f w).g_MOST_ROWS
 obtain ⟨_,gi_MOST_CASES⟩:=(f w).g_MOST_CASES
 exact Lw.all_mk KX G hmg (f w).q0 (f w).q1 (f w).q2 (f w).q3 (f w).q4 (f w).q5 (f w).q6 (f w).q7 (f w).q8 (f w).q9 (f w).q10 (f w).q11 (f w).q12 (f w).q13 (f w).q14 (f w).q15 (f w).q16 (f w).q17 (f w).q18 (f w).q19 (f w).q20 (f w).q21 (f w).q22 a l1 c k (f w).z0 (f w).z1 (f w).z2 (f w).z3 (f w).z4 (f w).z5 (f w).z6 (f w).z7 (f w).z8 (f w).z9 gi_OPPOSITES gl_OPPOSITES gi_MOST_ROWS gi_MOST_CASES (f w).ef
#print axioms PySem.Challenge.cw_rowbetween_k16_cases_holds
