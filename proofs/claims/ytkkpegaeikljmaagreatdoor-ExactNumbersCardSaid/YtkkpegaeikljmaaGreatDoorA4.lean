import Derived.Laws.Externs
import Derived.Lib.Bytealg
import Derived.Maps.Own
import Derived.Maps.Range
import Derived.Sort.KeysCollected
import GoSem.ClaimChange
import Derived.OpenShut
import Derived.FnData
import Derived.ChangeArms
import Derived.Test.YtkkpegaeikljmaaGreatDoorA3
import Derived.Test.YtkkpegaeikljmaaGreatDoorA0
import Derived.Test.YtkkpegaeikljmaaGreatDoorA1
set_option linter.unusedVariables false
set_option linter.unusedSimpArgs false
section
namespace Go.Ab
variable {E:Env}
theorem Mw {φ:Ph} {h:ah} {w:World} (ok:OK E φ h w) {ts:List AV} {tmps:Array Value} (ht:LR φ ts tmps.toList):∀{l:List ResultVar} {vs:List AV} (_:qb E h ts l=some vs),
 ∃sK,LR φ vs sK∧(l.mapM (fun | .tmp t=>pure (tmps.getD t undef) | .cell a t=>do loadVar t (←asAddr (tmps.getD a undef)):ResultVar→Sem Value)).run E.P w= .ok sK w
 | [],vs,h=>by simp [qb] at h;subst h;exact ⟨[],LR.nil φ,rfl⟩
 | r::rest,vs,h=>by
   have jx:∀t,VR φ (ts.getD t AV.undef) (tmps.getD t undef):=fun t=>by
    have:=ht.getD (VR.undef φ) t
    rw[show tmps.getD t undef=tmps.toList.getD t undef by simp [Array.getD_eq_getD_getElem?,List.getD]]
    exact this
   simp only[qb] at h
   split at h
   · simp at h
   · rename_i v hv
     split at h
     · simp at h
     · rename_i vs0 QX
       simp at h;subst h
       obtain ⟨sK,hl,hr⟩:=Mw ok ht QX
       cases r with
       | tmp t=>
         simp at hv;subst hv
         refine ⟨tmps.getD t undef::sK,.cons (by simpa using jx t) hl,?_⟩
         simp only[List.mapM_cons,Sem.run_bind,Sem.run_pure,Result.andThen_ok,hr]
       | cell ad t=>
         simp only at hv
         obtain ⟨x',hx,iH⟩:=I3 ok (jx ad) hv
         refine ⟨x'::sK,.cons hx hl,?_⟩
         have hr0:=iH w rfl
         have:(do loadVar t (←asAddr (tmps.getD ad undef)):Sem Value).run E.P w= .ok x' w:=by
          have Rl:=jx ad
          unfold bk at hv
          split at hv
          · rename_i i o heq
            rw[heq] at Rl
            generalize hq:tmps.getD ad undef=q at Rl hr0
            cases Rl
            simpa [Instr.loadAt,Instr.sureAddr,asAddr] using hr0
          · simp at hv
         simp only[List.mapM_cons]
         rw[Sem.run_bind,this]
         simp only[Sem.run_bind,Sem.run_pure,Result.andThen_ok,hr]
theorem wk {φ:Ph} {h:ah} {w:World} (ok:OK E φ h w) {ts:List AV} {tmps:Array Value} (ht:LR φ ts tmps.toList) {fn:Func} {vs:List AV} (hv:qb E h ts fn.results.toList=some vs):
 ∃v',VR φ (nD vs) v'∧(results fn tmps).run E.P w= .ok v' w:=by
 obtain ⟨sK,hl,hr⟩:=Mw ok ht hv
 have hm:(fn.results.mapM (fun | .tmp t=>pure (tmps.getD t undef) | .cell a t=>do loadVar t (←asAddr (tmps.getD a undef)):ResultVar→Sem Value)).run E.P w= .ok sK.toArray w:=by
  rw[Array.mapM_eq_mapM_toList]
  show Sem.run E.P (Functor.map List.toArray (_:Sem (List Value))) w=_
  rw[Sem.run_map]
  refine (congrArg (fun r=>Result.andThen r _) hr).trans ?_
  rfl
 refine ⟨if h:sK.toArray.size=1 then sK.toArray[0] else .tuple sK.toArray,?_,?_⟩
 · cases vs with
   | nil=>rw[hl.fR];exact VR.tuple' (LR.nil φ)
   | cons v vs=>
     obtain ⟨y,ys,rfl,hy,A_⟩:=hl.eN
     cases vs with
     | nil=>rw[A_.fR];simpa [nD] using hy
     | cons v2 vs2=>
       obtain ⟨y2,ys2,rfl,hy2,akR⟩:=A_.eN
       have:¬(y::y2::ys2).toArray.size=1:=by simp
       rw[dif_neg this]
       exact VR.tuple' (.cons hy (.cons hy2 akR))
 · unfold results
   rw[Sem.run_bind]
   refine (congrArg (fun r=>Result.andThen r _) hm).trans ?_
   rfl
def bare (f:FuncId) (kind:CallKind):Frame:={fn:=f,tmps:= #[],todo:=[],defers:=[],mode:= .run,kind:=kind,roundOf:=none}
theorem XM {P:Program} {f:FuncId} {fn:Func} {c:Code} (hf:P.funcs[f]? =some fn) (hb:fn.body=some c) (vs:List Value) (kind:CallKind):
 Frame.enter P f vs.toArray kind=(bare f kind).atR {tmps:=vs.toArray++Array.replicate (fn.ntmps - vs.length) undef,defers:=[]} [.code c]:=by
 simp [Frame.enter,Frame.atR,hf,hb,bare]
theorem wo (hE:jZ E) {call:aE} (cE:iu E call) {fuel:Nat} {f:FuncId} {fn:Func} {c:Code} (hf:E.P.funcs[f]? =some fn) (hb:fn.body=some c) {args:List AV} {h:ah} {rc:RC} {e:oA} {s':St}
 (gi:vS E call fuel fn c args h rc= .ok e s') {φ:Ph} {w:World} {vs:List Value} (ok:OK E φ h w) (hl:LR φ args vs) {kind:CallKind} {K:Bool→List Frame} (gv:oK φ (bare f kind) K rc):
 tf E φ h w (bare f kind) K [] (lone (Frame.enter E.P f vs.toArray kind) (cur K rc) w) e s':=by
 rw[XM hf hb]
 refine (Aq hE cE fuel c (s:={ts:=args++List.replicate (fn.ntmps - args.length) AV.undef,h,ds:=[],rc}) gi (a:={tmps:=vs.toArray++Array.replicate (fn.ntmps - vs.length) undef,defers:=[]}) (b:=bare f kind) (k:=[]) ⟨?_,trivial⟩ ok gv (by show (E.P.funcs[f]?).isSome=true;rw[hf];rfl)).1
 have:=hl.append (LR.replicate (VR.undef φ) (fn.ntmps - args.length))
 rw[hl.1] at this
 simpa [hl.1] using this
theorem enters {E:Env} (hE:jZ E) {f:FuncId} {fn:Func} {c:Code} (hf:E.P.funcs[f]? =some fn) (hb:fn.body=some c) (vs:Array Value) (w:World):(callFunc f vs).run E.P w= .ok (.enter f vs) w:=by
 have hn:=hE.names f fn hf
 have:(fn.name== "runtime.NumGoroutine")=false:=by rw[beq_eq_false_iff_ne];exact hn
 simp only[callFunc,Sem.run_bind,run_program,Result.andThen_ok,hf,this,Bool.false_eq_true,if_false,hb,Option.isNone_some,Sem.run_pure]
noncomputable def jY (E:Env) (call:aE) (fuel:Nat) (g:FuncId) (as:List AV) (h:ah) (rc:RC):Option (ah×RC):=match E.P.funcs[g]? with
 | none=>none
 | some fg=>match fg.body with
   | none=>none
   | some bg=>match vS E call fuel fg bg as h rc with
     | .ok .normal s'=>if s'.ds.isEmpty&&(qb E s'.h s'.ts fg.results.toList).isSome then some (s'.h,s'.rc) else none
     | .ok .ret s'=>if s'.ds.isEmpty&&(qb E s'.h s'.ts fg.results.toList).isSome then some (s'.h,s'.rc) else none
     | _=>none
theorem wq {φ:Ph} {ds:List Deferred} (h:DsR φ [] ds):ds=[]:=by cases ds with | nil=>rfl | cons _ _=>exact h.elim
def uE (c:Bool→Frame):RC→Frame
 | .done=>{c true with mode:=settle (c true).mode}
 | _=>{c false with mode:=settle (c false).mode}
theorem wu (hE:jZ E) {call:aE} (cE:iu E call) {fuel:Nat} {g:FuncId} {as:List AV} {h h':ah} {rc rc':RC} (hd:jY E call fuel g as h rc=some (h',rc')) {φ:Ph} {w:World} {vs:List Value}
 (ok:OK E φ h w) (hl:LR φ as vs) {c:Bool→Frame} {cs:List Frame} (gv:oK φ (bare g .deferred) (fun x=>c x::cs) rc):
 ∃φ' w',OK E φ' h' w'∧Fr φ h w φ' h' w'∧oK φ' (bare g .deferred) (fun x=>c x::cs) rc'∧(callFunc g vs.toArray).run E.P w= .ok (.enter g vs.toArray) w∧
  Steps E.P (lone (Frame.enter E.P g vs.toArray .deferred) (cur (fun x=>c x::cs) rc) w)
   (lone (uE c rc') cs w'):=by
 unfold jY at hd
 split at hd
 · simp at hd
 rename_i fg hf
 split at hd
 · simp at hd
 rename_i bg hb
 have key:∀(s':St) (e:oA),(e= .normal∨e= .ret)→vS E call fuel fg bg as h rc= .ok e s'→s'.ds.isEmpty=true→(qb E s'.h s'.ts fg.results.toList).isSome=true→s'.h=h'→s'.rc=rc'→
  ∃φ' w',OK E φ' h' w'∧Fr φ h w φ' h' w'∧oK φ' (bare g .deferred) (fun x=>c x::cs) rc'∧(callFunc g vs.toArray).run E.P w= .ok (.enter g vs.toArray) w∧
  Steps E.P (lone (Frame.enter E.P g vs.toArray .deferred) (cur (fun x=>c x::cs) rc) w)
   (lone (uE c rc') cs w'):=by
  intro s' e he gi Ro Rj hh hr
  subst hh;subst hr
  obtain ⟨φ',w',a',e',x1,x2,x3,x4,x5,x6⟩:=(wo hE cE hf hb gi ok hl (kind:= .deferred) gv).is
  refine ⟨φ',w',x3,x4,x5,enters hE hf hb _ w,?_⟩
  obtain ⟨sK,akS⟩:=Option.isSome_iff_exists.1 Rj
  obtain ⟨v',_,iH⟩:=wk x3 x2.ts akS
  have Mx:a'.defers=[]:=wq (by have:=x2.ds;rw[List.isEmpty_iff.1 Ro] at this;exact this)
  have fin:∀todo,step E.P (lone {(bare g .deferred).atR a' todo with mode:= .returning} (cur (fun x=>c x::cs) s'.rc) w')=
   .next (lone (uE c s'.rc) cs w'):=fun todo=>by
   have Qk:({(bare g .deferred).atR a' todo with mode:= .returning}:Frame).going E.P w' (.returned v'):=⟨rfl,Mx,fg,hf,iH⟩
   have hk:({(bare g .deferred).atR a' todo with mode:= .returning}:Frame).kind= .deferred:=rfl
   cases am7:s'.rc with
   | no=>exact step_going_returned (c:=c false) (cs:=cs) hk Qk
   | jE v=>exact step_going_returned (c:=c false) (cs:=cs) hk Qk
   | done=>exact step_going_returned (c:=c true) (cs:=cs) hk Qk
   | WN l=>exact step_going_returned (c:=c false) (cs:=cs) hk Qk
  rcases he with rfl | rfl
  · cases x1
    exact Steps.trans x6 (.head (stepR_end rfl) (.one (fin [])))
  · cases x1
    obtain ⟨todo,hs⟩:=x6
    exact Steps.trans hs (.head (stepR_ret rfl) (.one (fin _)))
 split at hd
 · rename_i s' gi
   split at hd
   · rename_i hc
     simp at hd;obtain ⟨rfl,rfl⟩:=hd
     simp only[Bool.and_eq_true] at hc
     exact key s' .normal (.inl rfl) gi hc.1 hc.2 rfl rfl
   · simp at hd
 · rename_i s' gi
   split at hd
   · rename_i hc
     simp at hd;obtain ⟨rfl,rfl⟩:=hd
     simp only[Bool.and_eq_true] at hc
     exact key s' .ret (.inr rfl) gi hc.1 hc.2 rfl rfl
   · simp at hd
 · simp at hd
theorem jO (hE:jZ E) {call:aE} (cE:iu E call) {fuel:Nat}:∀(ds:List cC) {p p':Option AV} {h h':ah} (_:eE (jY E call fuel) ds p h=some (p',h')) {φ:Ph} {w:World} {fr:Frame} {cs:List Frame}
 (_:OK E φ h w) (_:DsR φ ds fr.defers) (_:(p=none∧fr.mode= .returning)∨∃v v',p=some v∧VR φ v v'∧fr.mode= .panicking [{v:=v',recovered:=false}]),
 ∃φ' w' m',OK E φ' h' w'∧Fr φ h w φ' h' w'∧((p'=none∧m'= .returning)∨∃v v',p'=some v∧VR φ' v v'∧m'= .panicking [{v:=v',recovered:=false}])∧
  Steps E.P (lone fr cs w) (lone {fr with defers:=[],mode:=m'} cs w')
 | [],p,p',h,h',hu,φ,w,fr,cs,ok,Ro,hp=>by
   simp [eE] at hu;obtain ⟨rfl,rfl⟩:=hu
   have:=wq Ro
   refine ⟨φ,w,fr.mode,ok,Fr.refl _ _ _,?_,?_⟩
   · exact hp
   · rw[←this];exact Steps.refl _ _
 | .col r::ds,p,p',h,h',hu,φ,w,fr,cs,ok,Ro,hp=>by
   cases hfd:fr.defers with
   | nil=>rw[hfd] at Ro;exact Ro.elim
   | cons d' CH=>
   rw[hfd] at Ro
   obtain ⟨⟨l,hl,aci⟩,XN⟩:=Ro
   have XO:fr.mode≠ .run:=by
    rcases hp with ⟨_,hm⟩ | ⟨v,v',_,_,hm⟩<;>rw[hm]<;>simp
   simp only[eE] at hu
   split at hu
   · rename_i hg
     obtain ⟨_,hb⟩:=ok.live _ _ _ hg hl
     obtain ⟨Ms,f1⟩:=ok.shut hg rfl hl (.deferred none)
     have WY:=step_collected (P:=E.P) (cs:=cs) XO hfd aci (run_takeDeferred hb)
     obtain ⟨φ2,w2,m2,FX,f2,uj,Rp⟩:=jO hE cE ds hu (fr:={fr with defers:=[]++CH}) (cs:=cs) Ms (by simpa using XN) hp
     exact ⟨φ2,w2,m2,FX,f1.trans f2,uj,.head WY Rp⟩
   · simp at hu
 | .call df amB::ds,p,p',h,h',hu,φ,w,fr,cs,ok,Ro,hp=>by
   cases hfd:fr.defers with
   | nil=>rw[hfd] at Ro;exact Ro.elim
   | cons d' CH=>
   rw[hfd] at Ro
   obtain ⟨⟨cap,aci,Ba⟩,XN⟩:=Ro
   have XO:fr.mode≠ .run:=by
    rcases hp with ⟨_,hm⟩ | ⟨v,v',_,_,hm⟩<;>rw[hm]<;>simp
   have hinv:∀(WZ:(callFunc df (d'.args++cap).toList.toArray).run E.P w= .ok (.enter df (d'.args++cap).toList.toArray) w),(invoke d'.target d'.args).run E.P w= .ok (.enter df (d'.args++cap).toList.toArray) w:=fun WZ=>by
    have e:(d'.args++cap).toList.toArray=d'.args++cap:=Array.toArray_toList ..
    rw[e] at WZ ⊢
    rw[aci];exact WZ
   have WY:∀(WZ:(callFunc df (d'.args++cap).toList.toArray).run E.P w= .ok (.enter df (d'.args++cap).toList.toArray) w),step E.P (lone fr cs w)= .next (lone (Frame.enter E.P df (d'.args++cap).toList.toArray .deferred) ({fr with defers:=CH}::cs) w):=fun WZ=>step_defer XO hfd aci (hinv WZ)
   cases p with
   | none=>
     simp only[eE] at hu
     split at hu
     · rename_i h1 rc1 hcd
       have hm:fr.mode= .returning:=by
        rcases hp with ⟨_,hm⟩ | ⟨v,v',e,_,_⟩
        · exact hm
        · simp at e
       obtain ⟨φ1,w1,Ms,f1,_,WZ,ja⟩:=wu hE cE hcd ok Ba (c:=fun _=>{fr with defers:=CH}) (cs:=cs) ⟨rfl,fun Qn hk=>by simp [tryRecover,show Qn.kind= .deferred from hk,hm]⟩
       have sL:uE (fun _=>{fr with defers:=CH}) rc1={fr with defers:=CH}:=by
        cases rc1<;>simp [uE,hm,settle]
       rw[sL] at ja
       obtain ⟨φ2,w2,m2,FX,f2,uj,Rp⟩:=jO hE cE ds hu (fr:={fr with defers:=CH}) (cs:=cs) Ms (XN.mono f1.ext) (.inl ⟨rfl,hm⟩)
       exact ⟨φ2,w2,m2,FX,f1.trans f2,uj,.head (WY WZ) (Steps.trans ja Rp)⟩
     · simp at hu
   | some v=>
     obtain ⟨v',hv,hm⟩:∃v',VR φ v v'∧fr.mode= .panicking [{v:=v',recovered:=false}]:=by
      rcases hp with ⟨e,_⟩ | ⟨v1,v',e,hv,hm⟩
      · simp at e
      · simp at e;subst e;exact ⟨v',hv,hm⟩
     have gv:oK φ (bare df .deferred) (fun x=>(if x then {fr with defers:=CH,mode:= .panicking [{v:=v',recovered:=true}]} else {fr with defers:=CH})::cs) (.jE v):=
      ⟨rfl,⟨v',hv,fun Qn hk=>by simp [tryRecover,show Qn.kind= .deferred from hk,hm]⟩,fun Qn hk=>by simp [tryRecover,show Qn.kind= .deferred from hk]⟩
     simp only[eE] at hu
     split at hu
     · rename_i h1 v1 hcd
       obtain ⟨φ1,w1,Ms,f1,_,WZ,ja⟩:=wu hE cE hcd ok Ba (c:=fun x=>if x then {fr with defers:=CH,mode:= .panicking [{v:=v',recovered:=true}]} else {fr with defers:=CH}) (cs:=cs) gv
       have sL:uE (fun x=>if x then {fr with defers:=CH,mode:= .panicking [{v:=v',recovered:=true}]} else {fr with defers:=CH}) (.jE v1)={fr with defers:=CH}:=by simp [uE,hm,settle]
       rw[sL] at ja
       simp only[Bool.false_eq_true,if_false,cur] at ja
       obtain ⟨φ2,w2,m2,FX,f2,uj,Rp⟩:=jO hE cE ds hu (fr:={fr with defers:=CH}) (cs:=cs) Ms (XN.mono f1.ext) (.inr ⟨v,v',rfl,hv.mono f1.ext,hm⟩)
       exact ⟨φ2,w2,m2,FX,f1.trans f2,uj,.head (WY WZ) (Steps.trans ja Rp)⟩
     · rename_i h1 hcd
       obtain ⟨φ1,w1,Ms,f1,_,WZ,ja⟩:=wu hE cE hcd ok Ba (c:=fun x=>if x then {fr with defers:=CH,mode:= .panicking [{v:=v',recovered:=true}]} else {fr with defers:=CH}) (cs:=cs) gv
       have sL:uE (fun x=>if x then {fr with defers:=CH,mode:= .panicking [{v:=v',recovered:=true}]} else {fr with defers:=CH}) .done={fr with defers:=CH,mode:= .returning}:=by simp [uE,settle]
       rw[sL] at ja
       simp only[Bool.false_eq_true,if_false,cur] at ja
       obtain ⟨φ2,w2,m2,FX,f2,uj,Rp⟩:=jO hE cE ds hu (fr:={fr with defers:=CH,mode:= .returning}) (cs:=cs) Ms (XN.mono f1.ext) (.inl ⟨rfl,rfl⟩)
       exact ⟨φ2,w2,m2,FX,f1.trans f2,uj,.head (WY WZ) (Steps.trans ja Rp)⟩
     · simp at hu
theorem F1 (hE:jZ E) (fuel d:Nat) (ih:iu E (jF E d fuel)):(∀f args h v h',jF E (d+1) fuel (.fn f) args h= .ret v h'→iN E f args h v h')∧(∀f args h v h',jF E (d+1) fuel (.fn f) args h= .panic v h'→Tj E f args h v h'):=by
 have key:∀(f:FuncId) (args:List AV) (h:ah) (out:z_),jF E (d+1) fuel (.fn f) args h=out→(∀uu q,out≠ .fail uu q)→
  ∃fn c e s p,E.P.funcs[f]? =some fn∧fn.body=some c∧vS E (jF E d fuel) fuel fn c args h .no= .ok e s∧
   ((p=none∧(e= .normal∨e= .ret))∨∃v,p=some v∧e= .panic v)∧
   ((∃v h',out= .panic v h'∧eE (jY E (jF E d fuel) fuel) s.ds p s.h=some (some v,h'))∨
    ∃vs h',out= .ret (nD vs) h'∧eE (jY E (jF E d fuel) fuel) s.ds p s.h=some (none,h')∧qb E h' s.ts fn.results.toList=some vs):=by
  intro f args h out e cR
  simp only[jF] at e
  split at e
  · exact absurd e.symm (cR _ _)
  rename_i fn hf
  split at e
  · exact absurd e.symm (cR _ _)
  rename_i c hb
  have fin:∀(p:Option AV) (s:St),(match eE (jY E (jF E d fuel) fuel) s.ds p s.h with
   | none=>z_.fail "unwind" none
   | some (some v,h')=> .panic v h'
   | some (none,h')=>match qb E h' s.ts fn.results.toList with
     | some vs=> .ret (nD vs) h'
     | none=> .fail "results" none)=out→
   ((∃v h',out= .panic v h'∧eE (jY E (jF E d fuel) fuel) s.ds p s.h=some (some v,h'))∨
    ∃vs h',out= .ret (nD vs) h'∧eE (jY E (jF E d fuel) fuel) s.ds p s.h=some (none,h')∧qb E h' s.ts fn.results.toList=some vs):=by
   intro p s hm
   split at hm
   · exact absurd hm.symm (cR _ _)
   · rename_i v h' hu;exact .inl ⟨v,h',hm.symm,hu⟩
   · rename_i h' hu
     split at hm
     · rename_i vs hv;exact .inr ⟨vs,h',hm.symm,hu,hv⟩
     · exact absurd hm.symm (cR _ _)
  split at e
  · rename_i s gi;exact ⟨fn,c,_,s,none,hf,hb,gi,.inl ⟨rfl,.inl rfl⟩,fin none s e⟩
  · rename_i s gi;exact ⟨fn,c,_,s,none,hf,hb,gi,.inl ⟨rfl,.inr rfl⟩,fin none s e⟩
  · rename_i v s gi;exact ⟨fn,c,_,s,some v,hf,hb,gi,.inr ⟨v,rfl,rfl⟩,fin (some v) s e⟩
  · exact absurd e.symm (cR _ _)
  · exact absurd e.symm (cR _ _)
 have run:∀(f:FuncId) (fn:Func) (c:Code) (args:List AV) (h:ah) (e:oA) (s:St) (p p':Option AV) (h':ah),E.P.funcs[f]? =some fn→fn.body=some c→vS E (jF E d fuel) fuel fn c args h .no= .ok e s→
  ((p=none∧(e= .normal∨e= .ret))∨∃v,p=some v∧e= .panic v)→eE (jY E (jF E d fuel) fuel) s.ds p s.h=some (p',h')→
  ∀(φ:Ph) (w:World) (vs:List Value),OK E φ h w→LR φ args vs→∀cs,∃φ' w' m' tmps todo,OK E φ' h' w'∧Fr φ h w φ' h' w'∧LR φ' s.ts tmps.toList∧
   ((p'=none∧m'= .returning)∨∃v v',p'=some v∧VR φ' v v'∧m'= .panicking [{v:=v',recovered:=false}])∧
   Steps E.P (lone (Frame.enter E.P f vs.toArray .normal) cs w) (lone {(bare f .normal).atR {tmps,defers:=[]} todo with mode:=m'} cs w'):=by
  intro f fn c args h e s p p' h' hf hb gi hp hu φ w vs ok hl cs
  obtain ⟨φ1,w1,a1,e1,x1,x2,x3,x4,x5,x6⟩:=(wo hE ih hf hb gi ok hl (kind:= .normal) (K:=fun _=>cs) ⟨rfl,fun fr hk=>by simp [tryRecover,show fr.kind= .normal from hk]⟩).is
  have Iv:cur (fun _=>cs) s.rc=cs:=by cases s.rc<;>rfl
  have XP:cur (fun _=>cs) RC.no=cs:=rfl
  rw[Iv] at x6
  rw[XP] at x6
  have hm:∃todo m,((p=none∧m= .returning)∨∃v v',p=some v∧VR φ1 v v'∧m= .panicking [{v:=v',recovered:=false}])∧
   Steps E.P (lone (Frame.enter E.P f vs.toArray .normal) cs w) (lone {(bare f .normal).atR a1 todo with mode:=m} cs w1):=by
   rcases hp with ⟨rfl,rfl | rfl⟩ | ⟨v,rfl,rfl⟩
   · cases x1;exact ⟨[],.returning,.inl ⟨rfl,rfl⟩,Steps.trans x6 (.one (stepR_end rfl))⟩
   · cases x1;obtain ⟨todo,hs⟩:=x6;exact ⟨_,.returning,.inl ⟨rfl,rfl⟩,Steps.trans hs (.one (stepR_ret rfl))⟩
   · cases x1 with
     | panic _ v' hv=>obtain ⟨todo,hs⟩:=x6;exact ⟨todo,_,.inr ⟨v,v',rfl,hv,rfl⟩,hs⟩
  obtain ⟨todo,m,hmp,xY⟩:=hm
  obtain ⟨φ2,w2,m2,FX,f2,uj,Rr⟩:=jO hE ih s.ds hu (fr:={(bare f .normal).atR a1 todo with mode:=m}) (cs:=cs) x3 x2.ds (by
   rcases hmp with ⟨e,em⟩ | ⟨v,v',e,hv,em⟩
   · exact .inl ⟨e,em⟩
   · exact .inr ⟨v,v',e,hv,em⟩)
  exact ⟨φ2,w2,m2,a1.tmps,todo,FX,x4.trans f2,x2.ts.mono f2.ext,uj,Steps.trans xY Rr⟩
 refine ⟨fun f args h v h' e=>?_,fun f args h v h' e=>?_⟩
 · obtain ⟨fn,c,e1,s,p,hf,hb,gi,hp,vZ⟩:=key f args h _ e (by simp)
   rcases vZ with ⟨v1,h1,he,_⟩ | ⟨vs1,h1,he,hu,Rj⟩
   · simp at he
   · simp at he;obtain ⟨rfl,rfl⟩:=he
     intro φ w vs ok hl
     refine ⟨enters hE hf hb _ w,fun cs=>?_⟩
     obtain ⟨φ',w',m',tmps,todo,yd,fr,ht,hm,hs⟩:=run f fn c args h e1 s p none h' hf hb gi hp hu φ w vs ok hl cs
     obtain ⟨v',hv,iH⟩:=wk yd ht Rj
     rcases hm with ⟨_,rfl⟩ | ⟨v,v'',e,_⟩
     · exact ⟨φ',w',v',_,hv,yd,fr,hs,rfl,rfl,rfl,rfl,fn,hf,iH⟩
     · simp at e
 · obtain ⟨fn,c,e1,s,p,hf,hb,gi,hp,vZ⟩:=key f args h _ e (by simp)
   rcases vZ with ⟨v1,h1,he,hu⟩ | ⟨vs1,h1,he,_⟩
   · simp at he;obtain ⟨rfl,rfl⟩:=he
     intro φ w vs ok hl
     refine ⟨enters hE hf hb _ w,fun cs=>?_⟩
     obtain ⟨φ',w',m',tmps,todo,yd,fr,ht,hm,hs⟩:=run f fn c args h e1 s p (some v) h' hf hb gi hp hu φ w vs ok hl cs
     rcases hm with ⟨e,_⟩ | ⟨v2,v',e,hv,rfl⟩
     · simp at e
     · simp at e;subst e
       exact ⟨φ',w',v',_,hv,yd,fr,hs,rfl,rfl,rfl,fn,hf⟩
   · simp at he
theorem Ar {l:Nat} {jump:Option Code} {s:St} {v:AV} {h':ah} (he:L3 l jump s= .ret v h') {φ:Ph} {w:World} (ok:OK E φ s.h w) {ll:Loc} (hl:φ l=some ll):
 ∃w',v= .bool jump.isNone∧OK E φ h' w'∧Fr φ s.h w φ h' w'∧(Instr.endRound ll.fO jump).run E.P w= .ok (.bool jump.isNone) w':=by
 unfold L3 at he
 split at he
 · rename_i st pd ts ps as bd dn hg
   simp only[z_.ret.injEq] at he;obtain ⟨rfl,rfl⟩:=he
   obtain ⟨_,r,hr,C2⟩:=ok.live _ _ _ hg hl
   obtain ⟨Ms,f1⟩:=ok.afD (o':= .loop (if jump.isNone then .ready else .done) jump ts ps as bd dn) hg rfl hl (O:= .loop {r with state:=if jump.isNone then .ready else .done,pending:=jump})
    ⟨by have:=ok.live _ _ _ hg hl;exact this.1,_,rfl,⟨rfl,rfl,C2.tmps,C2.params,C2.assign,C2.body,C2.defers,C2.fn⟩⟩
   exact ⟨_,rfl,Ms,f1,run_endRound jump hr⟩
 · simp at he
theorem My {φ:Ph}:∀{ps:List Tmp} {args:List AV} {vs:List Value} (_:LR φ args vs) {ts:List AV} {tmps:Array Value} (_:LR φ ts tmps.toList),
 LR φ ((ps.zip args).foldl (fun ts x=>ts.set x.1 x.2) ts) (((ps.zip vs).foldl (fun (tmps:Array Value) (x:Tmp×Value)=>tmps.setIfInBounds x.1 x.2) tmps).toList)
 | [],_,_,_,_,_,ht=>by simpa using ht
 | p::ps,[],vs,hl,ts,tmps,ht=>by rw[hl.fR];simpa using ht
 | p::ps,x::xs,vs,hl,ts,tmps,ht=>by
   obtain ⟨y,ys,rfl,hy,A_⟩:=hl.eN
   simp only[List.zip_cons_cons,List.foldl_cons]
   exact My A_ (by simpa using ht.set hy p)
theorem F2 (hE:jZ E) {call:aE} (cE:iu E call) {fuel l:Nat} {args:List AV} {h:ah} {out:z_} (ho:QL E call fuel l args h=out) (cR:∀uu q,out≠ .fail uu q)
 {φ:Ph} {w:World} {vs:List Value} (ok:OK E φ h w) {ll:Loc} (hφ:φ l=some ll) (hl:LR φ args vs):
 ∃f tmps assign body,(Instr.yield ll.fO vs.toArray).run E.P w= .ok (.round ll.fO f tmps assign body) w∧∀c cs,
  (∀v h',out= .ret v h'→∃φ' w' v',VR φ' v v'∧OK E φ' h' w'∧Fr φ h w φ' h' w'∧Steps E.P (lone (Frame.round ll.fO f tmps assign body .normal) (c::cs) w) (lone (c.finish v') cs w'))∧
  (∀v h',out= .panic v h'→∃φ' w' v',VR φ' v v'∧OK E φ' h' w'∧Fr φ h w φ' h' w'∧Steps E.P (lone (Frame.round ll.fO f tmps assign body .normal) (c::cs) w) (lone (c.raise [{v:=v',recovered:=false}]) cs w')):=by
 unfold QL at ho
 split at ho
 · rename_i st pd ts ps as bd dn hg
   split at ho
   · rename_i hlen
     split at ho
     · rename_i s1 hx1
       split at ho
       · rename_i pd2 ts2 ps2 as2 bd2 dn2 XQ
         obtain ⟨Mz,r,hr,C2⟩:=ok.live _ _ _ hg hφ
         have QO:vs.toArray.size=r.params.size:=by
          have h1:=congrArg List.length C2.params
          have h2:=hl.1
          simp at h1 ⊢;omega
         refine ⟨r.fn,_,r.assign,r.body,run_yield hr QO,fun c cs=>?_⟩
         have ahE:LR φ ((ps.zip args).foldl (fun ts x=>ts.set x.1 x.2) ts) ((r.params.zip vs.toArray).foldl (fun tmps (t,a)=>tmps.setIfInBounds t a) r.tmps).toList:=by
          have:=My (ps:=ps) hl C2.tmps
          rw[←Array.foldl_toList,Array.toList_zip,C2.params]
          exact this
         generalize htm:(r.params.zip vs.toArray).foldl (fun tmps (t,a)=>tmps.setIfInBounds t a) r.tmps=To at ahE
         let b:Frame:={fn:=r.fn,tmps:= #[],todo:=[],defers:=[],mode:= .run,kind:= .normal,roundOf:=some ll.fO}
         have hb:b.roundOf=some ll.fO:=rfl
         have hk:b.kind= .normal:=rfl
         have CY:Frame.round ll.fO r.fn To r.assign r.body .normal=b.atR {tmps:=To,defers:=[]} [.code r.assign,.beginRound,.code r.body]:=rfl
         rw[C2.assign,C2.body] at CY ⊢
         rw[CY]
         have Iv:∀rc,cur (fun _=>c::cs) rc=c::cs:=fun rc=>by cases rc<;>rfl
         obtain ⟨φ1,w1,a1,e1,x1,x2,x3,x4,x5,x6⟩:=(Aq hE cE fuel as hx1 (a:={tmps:=To,defers:=[]}) (b:=b) (k:=[.beginRound,.code bd]) (K:=fun _=>c::cs) ⟨ahE,trivial⟩ ok ⟨ll,hφ,rfl⟩ C2.fn).1.is
         cases x1
         rw[Iv,Iv] at x6
         have hφ1:=x4.ext _ _ hφ
         obtain ⟨ahF,r1,Mg,MA⟩:=x3.live _ _ _ XQ hφ1
         obtain ⟨FX,f2⟩:=x3.afD (o':= .loop .busy pd2 ts2 ps2 as2 bd2 dn2) XQ rfl hφ1 (O:= .loop {r1 with state:= .busy})
          ⟨ahF,_,rfl,⟨rfl,MA.pending,MA.tmps,MA.params,MA.assign,MA.body,MA.defers,MA.fn⟩⟩
         have akT:=stepR_beginRound (P:=E.P) (b:=b) (a:=a1) (k:=[.code bd]) (cs:=c::cs) hb (run_beginRound Mg MA.state)
         have wj:=Steps.trans x6 (.one akT)
         have body:∀(e:oA) (s2:St),exec E call fuel bd {s1 with h:=s1.h.put l (some (.loop .busy pd2 ts2 ps2 as2 bd2 dn2))}= .ok e s2→
          ∃φ' w' a' e',ExR φ' e e'∧SR φ' s2.ts s2.ds a'∧OK E φ' s2.h w'∧Fr φ h w φ' s2.h w'∧φ' l=some ll∧Mu E.P (lone (b.atR {tmps:=To,defers:=[]} [.code as,.beginRound,.code bd]) (c::cs) w) b [] (c::cs) e' a' w':=by
          intro e s2 hx2
          obtain ⟨φ3,w3,a3,e3,y1,y2,y3,y4,y5,y6⟩:=(Aq hE cE fuel bd hx2 (a:=a1) (b:=b) (k:=[]) (K:=fun _=>c::cs) x2 FX x5 C2.fn).1.is
          rw[Iv,Iv] at y6
          exact ⟨φ3,w3,a3,e3,y1,y2,y3,(x4.trans f2).trans y4,y4.ext _ _ hφ1,.of_steps wj y6⟩
         split at ho
         · rename_i s2 hx2
           obtain ⟨φ3,w3,a3,e3,y1,y2,y3,y4,hl3,y6⟩:=body _ _ hx2
           cases y1
           refine ⟨fun v h' e=>?_,fun v h' e=>?_⟩
           · obtain ⟨w4,rfl,z1,z2,z3⟩:=Ar (ho.trans e) y3 hl3
             exact ⟨φ3,w4,_,.bool _,z1,y4.trans z2,Steps.trans y6 (.one (stepR_round_end hb hk z3))⟩
           · rw[e] at ho;unfold L3 at ho;split at ho<;>simp at ho
         · rename_i s2 hx2
           obtain ⟨φ3,w3,a3,e3,y1,y2,y3,y4,hl3,y6⟩:=body _ _ hx2
           cases y1
           refine ⟨fun v h' e=>?_,fun v h' e=>?_⟩
           · obtain ⟨w4,rfl,z1,z2,z3⟩:=Ar (ho.trans e) y3 hl3
             obtain ⟨todo,hs⟩:=y6
             exact ⟨φ3,w4,_,.bool _,z1,y4.trans z2,Steps.trans hs (.one (stepR_round_ret hb hk z3))⟩
           · rw[e] at ho;unfold L3 at ho;split at ho<;>simp at ho
         · rename_i id s2 hx2
           obtain ⟨φ3,w3,a3,e3,y1,y2,y3,y4,hl3,y6⟩:=body _ _ hx2
           cases y1
           refine ⟨fun v h' e=>?_,fun v h' e=>?_⟩
           · obtain ⟨w4,rfl,z1,z2,z3⟩:=Ar (ho.trans e) y3 hl3
             obtain ⟨todo,ht,hs⟩:=y6
             exact ⟨φ3,w4,_,.bool _,z1,y4.trans z2,Steps.trans hs (.one (stepR_round_exit hb hk ht z3))⟩
           · rw[e] at ho;unfold L3 at ho;split at ho<;>simp at ho
         · rename_i v2 s2 hx2
           obtain ⟨φ3,w3,a3,e3,y1,y2,y3,y4,hl3,y6⟩:=body _ _ hx2
           split at ho
           · rename_i Ro
             refine ⟨fun v h' e=>by rw[e] at ho;simp at ho,fun v h' e=>?_⟩
             rw[e] at ho;simp at ho;obtain ⟨rfl,rfl⟩:=ho
             cases y1 with
             | panic _ v' hv=>
               obtain ⟨todo,hs⟩:=y6
               have Mx:a3.defers=[]:=wq (by have:=y2.ds;rw[List.isEmpty_iff.1 Ro] at this;exact this)
               obtain ⟨fn,E_⟩:=Option.isSome_iff_exists.1 C2.fn
               exact ⟨φ3,w3,v',hv,y3,y4,Steps.trans hs (.one (step_leave_panicked ⟨rfl,Mx,fn,E_⟩))⟩
           · exact absurd ho.symm (cR _ _)
         · exact absurd ho.symm (cR _ _)
       · exact absurd ho.symm (cR _ _)
     · exact absurd ho.symm (cR _ _)
     · exact absurd ho.symm (cR _ _)
   · exact absurd ho.symm (cR _ _)
 · exact absurd ho.symm (cR _ _)
theorem wA (hE:jZ E) (fuel:Nat):∀d,iu E (jF E d fuel)
 | 0=>⟨fun f args h v h' e=>by simp [jF] at e,fun f args h v h' e=>by simp [jF] at e⟩
 | d+1=>by
   have ih:=wA hE fuel d
   obtain ⟨k1,k2⟩:=F1 hE fuel d ih
   refine ⟨fun F args h v h' e=>?_,fun F args h v h' e=>?_⟩
   · cases F with
     | fn f=>exact (k1 f args h v h' e).any
     | Ik l=>
       simp only[jF] at e
       intro φ w vs ok hf hl
       obtain ⟨ll,hφ⟩:=hf
       obtain ⟨f,tmps,assign,body,hy,iH⟩:=F2 hE ih e (by simp) ok hφ hl
       exact ⟨_,_,.Ik l ll hφ vs f tmps assign body hy,fun c cs=>(iH c cs).1 v h' rfl⟩
   · cases F with
     | fn f=>exact (k2 f args h v h' e).any
     | Ik l=>
       simp only[jF] at e
       intro φ w vs ok hf hl
       obtain ⟨ll,hφ⟩:=hf
       obtain ⟨f,tmps,assign,body,hy,iH⟩:=F2 hE ih e (by simp) ok hφ hl
       exact ⟨_,_,.Ik l ll hφ vs f tmps assign body hy,fun c cs=>(iH c cs).2 v h' rfl⟩
end Go.Ab
end
section
namespace Go.Ab.Fa
structure Acc (T:Type) where
 f:T→AV
structure Upd (T:Type) where
 f:AV→T→T
structure RF where
 T:Type
 N:Nat
 get:Nat→Acc T
 set:Nat→Upd T
 z:T
 amC:∀i,i<N→(get i).f z=AV.undef
 ahG:∀i,i<N→∀v r,(get i).f ((set i).f v r)=v
 aha:∀i j,i<N→j<N→i≠j→∀v r,(get j).f ((set i).f v r)=(get j).f r
section
variable (F:RF) (n:Nat)
end
end Go.Ab.Fa
end
section
namespace Go.Ab.Fa
section
variable {R:Type}
noncomputable def Vg (f:IntKind→Int→R) (d:R) (v:AV):R:=
 AV.rec (motive_1:=fun _=>R) (motive_2:=fun _=>Unit) (fun _=>d) (fun k n=>f k n) (fun _=>d) d (fun _ _=>d) d (fun _ _ _ _ _=>d) d (fun _=>d) (fun _ _ _ _ _=>d) (fun _=>d) d (fun _ _ _=>d) d (fun _ _=>d) (fun _ _=>d) d d () (fun _ _ _ _=>()) v
noncomputable def XR (f:List UInt8→R) (d:R) (v:AV):R:=
 AV.rec (motive_1:=fun _=>R) (motive_2:=fun _=>Unit) (fun _=>d) (fun _ _=>d) (fun s=>f s) d (fun _ _=>d) d (fun _ _ _ _ _=>d) d (fun _=>d) (fun _ _ _ _ _=>d) (fun _=>d) d (fun _ _ _=>d) d (fun _ _=>d) (fun _ _=>d) d d () (fun _ _ _ _=>()) v
noncomputable def ahH (f:Nat→Nat→R) (d:R) (v:AV):R:=
 AV.rec (motive_1:=fun _=>R) (motive_2:=fun _=>Unit) (fun _=>d) (fun _ _=>d) (fun _=>d) d (fun i o=>f i o) d (fun _ _ _ _ _=>d) d (fun _=>d) (fun _ _ _ _ _=>d) (fun _=>d) d (fun _ _ _=>d) d (fun _ _=>d) (fun _ _=>d) d d () (fun _ _ _ _=>()) v
noncomputable def adX (f:FuncId→List AV→List AV→R) (y:Nat→R) (d:R) (v:AV):R:=
 AV.rec (motive_1:=fun _=>R) (motive_2:=fun _=>Unit) (fun _=>d) (fun _ _=>d) (fun _=>d) d (fun _ _=>d) d (fun _ _ _ _ _=>d) d (fun _=>d) (fun g a b _ _=>f g a b) (fun l=>y l) d (fun _ _ _=>d) d (fun _ _=>d) (fun _ _=>d) d d () (fun _ _ _ _=>()) v
noncomputable def ob {α:Type} (d:R) (f:α→R) (o:Option α):R:=Option.rec (motive:=fun _=>R) d f o
noncomputable def bc (b:Bool) (x y:R):R:=Bool.rec (motive:=fun _=>R) y x b
noncomputable def XS (f:List AV→TypeId→Bool→R) (d:R) (o:ar):R:=
 ar.rec (motive:=fun _=>R) (fun cs e ro=>f cs e ro) (fun _ _=>d) (fun _ _=>d) (fun _ _ _ _=>d) (fun _ _ _ _ _ _ _=>d) d o
noncomputable def MB (f:Nat→R) (d:R) (n:Int):R:=Int.rec (motive:=fun _=>R) f (fun _=>d) n
noncomputable def kEl (a b c d e f g h:R) (k:IntKind):R:=IntKind.rec (motive:=fun _=>R) a b c d e f g h k
end
section
variable {α:Type}
noncomputable def Kr (l:List α):Nat:=List.rec (motive:=fun _=>Nat) 0 (fun _ _ ih=>Nat.add ih 1) l
noncomputable def afF (f:α→Bool) (l:List α):Bool:=List.rec (motive:=fun _=>Bool) true (fun v _ ih=>bc (f v) ih false) l
end
end Go.Ab.Fa
end
section
namespace Go.Ab.Fa
section
variable {α β:Type}
noncomputable def Ru (l:List α):(List α→β)→β:=List.rec (motive:=fun _=>(List α→β)→β) (fun k=>k []) (fun x _ ih k=>ih fun tl=>k (x::tl)) l
theorem Vh (l:List α) (k:List α→β):Ru l k=k l:=by
 induction l generalizing k with
 | nil=>rfl
 | cons y tl ih=>show Ru tl (fun tl=>k (y::tl))=_;rw[ih]
theorem ahI (b:Bool) (x y:α):bc b x y=bif b then x else y:=by cases b<;>rfl
theorem akU (x y:Nat):(x==y)=Nat.beq x y:=by
 cases h:Nat.beq x y
 · rw[beq_eq_false_iff_ne];intro e;subst e;rw[Nat.beq_refl] at h;exact absurd h (by simp)
 · rw[Nat.eq_of_beq_eq_true h];simp
theorem acj (f:α→Bool) (l:List α):afF f l=l.all f:=by
 induction l with
 | nil=>rfl
 | cons y tl ih=>show bc (f y) (afF f tl) false=_;rw[ih,ahI,List.all_cons];cases f y<;>rfl
theorem Kt (l:List α):Kr l=l.length:=by
 induction l with
 | nil=>rfl
 | cons y tl ih=>show Kr tl+1=_;rw[ih];rfl
end
variable (E:Env)
theorem XT (a b:Bool):bc a b false=(a&&b):=by cases a<;>rfl
noncomputable def nin (x:Nat) (l:List Nat):Bool:=List.rec (motive:=fun _=>Bool) true (fun y _ ih=>bc (Nat.beq x y) false ih) l
noncomputable def Rw (l:List Nat):Bool:=List.rec (motive:=fun _=>Bool) true (fun x tl ih=>bc (nin x tl) ih false) l
theorem afG (x:Nat) (l:List Nat):nin x l= !l.contains x:=by
 induction l with
 | nil=>rfl
 | cons y tl ih=>
   show bc (Nat.beq x y) false (nin x tl)=_
   rw[ih,List.contains_cons,akU]
   cases Nat.beq x y<;>rfl
theorem Jb:∀l,Rw l=nodup l
 | []=>rfl
 | x::tl=>by
   show bc (nin x tl) (Rw tl) false=_
   rw[Jb tl,afG,XT];rfl
end Go.Ab.Fa
end
section
namespace Go.Ab.Fa
structure W (α:Type) where
 f:α
section
variable {α β T:Type}
end
structure Y where
 ds:List cC
 rc:RC
inductive FO (T:Type) where
 | nrm (r:T) (h:ah) (y:Y)
 | jmp (e:oA) (r:T) (h:ah) (y:Y)
 | bad
structure I (T:Type) where
 run:aE→T→ah→Y→FO T
structure C (T:Type) where
 run:Nat→aE→T→ah→Y→FO T
inductive Kd (T:Type) where
 | tot (f:T→AV)
 | pur (f:T→Option AV)
 | red (f:T→ah→Option AV)
 | Qh (f:T→Option (ar×(Nat→AV)))
 | wr (f:T→ah→Option (AV×ah))
 | call (g:Fn) (args:T→List AV)
 | QJ (f:aE→T→ah→RC→ab0)
 | bad
section
variable (E:Env) (F:RF) (n:Nat)
variable {T:Type}
noncomputable def afH {R:Type} (e:R) (f:Nat→R) (d:R) (v:AV):R:=
 AV.rec (motive_1:=fun _=>R) (motive_2:=fun _=>Unit) (fun _=>d) (fun _ _=>d) (fun _=>d) d (fun _ _=>d) d (fun _ _ _ _ _=>d) e (fun i=>f i) (fun _ _ _ _ _=>d) (fun _=>d) d (fun _ _ _=>d) d (fun _ _=>d) (fun _ _=>d) d d () (fun _ _ _ _=>()) v
structure Chk where
 k:Nat
 m:Nat
 made:Option Nat
 f:ah→Bool
inductive DO (T:Type) where
 | ok (tr:List Chk) (hs:List ah) (r:T) (h:ah) (y:Y)
 | bad
structure D (T:Type) where
 run:aE→T→ah→Y→DO T
end
section
variable (E:Env)
inductive BO where
 | fin (res:ah→Option (List AV)) (h:ah) (y:Y)
 | pan (v:AV) (res:ah→Option (List AV)) (h:ah) (y:Y)
 | bad
structure CF where
 run:Nat→aE→List AV→ah→RC→BO
noncomputable def adY {α R:Type} (a b:R) (l:List α):R:=List.rec (motive:=fun _=>R) a (fun _ _ _=>b) l
end
end Go.Ab.Fa
end
section
namespace Go.Ab.Fa
theorem Tp {R:Type} (x y:R):bc true x y=x:=rfl
theorem MC {R:Type} (x y:R):bc false x y=y:=rfl
theorem F3 {α β:Type} {f:α→Option β} {o:Option α} {v:β} (h:ob none f o=some v):∃a,o=some a∧f a=some v:=by
 cases o with
 | none=>exact absurd h (by intro e;cases e)
 | some a=>exact ⟨a,rfl,h⟩
theorem sM {β:Type} {b:Bool} {x:Option β} {v:β} (h:bc b x none=some v):b=true∧x=some v:=by
 cases b with
 | false=>cases h
 | true=>exact ⟨rfl,h⟩
theorem Tq {β:Type} {b:Bool} {x:Option β} {v:β} (h:bc b none x=some v):b=false∧x=some v:=by
 cases b with
 | false=>exact ⟨rfl,h⟩
 | true=>cases h
theorem wB {β:Type} {f:IntKind→Int→Option β} {a:AV} {v:β} (h:Vg f none a=some v):∃k n,a= .int k n∧f k n=some v:=by
 cases a with
 | int k n=>exact ⟨k,n,rfl,h⟩
 | _=>exact absurd h (by intro e;cases e)
theorem F4 {β:Type} {f:List UInt8→Option β} {a:AV} {v:β} (h:XR f none a=some v):∃s,a= .str s∧f s=some v:=by
 cases a with
 | str s=>exact ⟨s,rfl,h⟩
 | _=>exact absurd h (by intro e;cases e)
theorem XU {β:Type} {f:Nat→Nat→Option β} {a:AV} {v:β} (h:ahH f none a=some v):∃i o,a= .ptr i o∧f i o=some v:=by
 cases a with
 | ptr i o=>exact ⟨i,o,rfl,h⟩
 | _=>exact absurd h (by intro e;cases e)
theorem wC {β:Type} {f:Nat→Option β} {n:Int} {v:β} (h:MB f none n=some v):∃m:Nat,n=(m:Int)∧f m=some v:=by
 cases n with
 | ofNat m=>exact ⟨m,rfl,h⟩
 | negSucc m=>cases h
theorem Rx {β:Type} {f:List AV→TypeId→Bool→Option β} {o:ar} {v:β} (h:XS f none o=some v):∃cs e ro,o= .cells cs e ro∧f cs e ro=some v:=by
 cases o with
 | cells cs e ro=>exact ⟨cs,e,ro,rfl,h⟩
 | _=>exact absurd h (by intro e;cases e)
theorem C3 {a b:Nat} (h:Nat.ble a b=true):a≤b:=Nat.le_of_ble_eq_true h
theorem XV {a b:Nat} (h:Nat.ble a b=false):b<a:=by
 apply Decidable.byContradiction;intro hn
 rw[Nat.ble_eq_true_of_le (by omega)] at h;cases h
theorem Ry {a b:Nat} (h:Nat.beq a b=true):a=b:=Nat.eq_of_beq_eq_true h
end Go.Ab.Fa
end
section
namespace Go.Ab.Fa
section
variable {α:Type}
end
section
variable (E:Env) (F:RF) (n:Nat)
end
end Go.Ab.Fa
end
section
namespace Go.Ab.Fa
variable {E:Env} {F:RF} {n:Nat}
end Go.Ab.Fa
end
section
namespace Go.Ab.Fa
variable {E:Env} {F:RF} {n:Nat}
end Go.Ab.Fa
end
section
namespace Go.Ab.Fa
variable {E:Env} {F:RF} {n:Nat}
theorem adZ {h:ah} {obj:ar} {f:ah→AV×ah} {p:AV×ah} (e:ob none (fun h'=>some (f h')) (h.new obj)=some p):∃h',h.new obj=some h'∧p=f h':=by
 obtain ⟨h',h1,e1⟩:=F3 e
 exact ⟨h',h1,(Option.some.inj e1).symm⟩
end Go.Ab.Fa
end
section
namespace Go.Ab.Fa
variable {E:Env} {F:RF} {n:Nat}
def madeOf:TK→Option Nat
 | .Qh n _=>some n
 | _=>none
inductive MD (E:Env) (ops:Array Oper) (pl:CQ):List Chk→List Step→Prop
 | nil:MD E ops pl [] []
 | skip {x:Step} {c:List Chk} {t:List Step} (hs:∀h,qa E ops x h=true) (hm:madeOf x.kind=none) (ht:MD E ops pl c t):MD E ops pl c (x::t)
 | chk {x:Step} {c0:Chk} {c:List Chk} {t:List Step} (hk:c0.k=x.k) (hl:c0.m=sG pl.cB pl.an x.i+1 - x.k) (hm:madeOf x.kind=c0.made)
  (hs:∀h,c0.f h=true→qa E ops x h=true) (ht:MD E ops pl c t):MD E ops pl (c0::c) (x::t)
end Go.Ab.Fa
end
section
namespace Go.Ab.Fa
variable {E:Env} {F:RF} {n:Nat}
end Go.Ab.Fa
end
section
namespace Go.Ab
structure zJ (P:Program) (f:FuncId) (e:Array Value→Sem Value):Prop where
 at':∃fn,P.funcs[f]? =some fn∧(fn.name== "runtime.NumGoroutine")=false∧fn.body.isNone=true∧Extern.findNext fn=none∧Extern.find fn=some e
theorem zJ.run {P:Program} {f:FuncId} {e:Array Value→Sem Value} (h:zJ P f e) (args:Array Value) (w:World):(callFunc f args).run P w=((e args).run P w).andThen fun v w'=> .ok (.value v) w':=by
 obtain ⟨fn,h1,h2,h3,h4,h5⟩:=h.at'
 exact run_callFunc_extern h1 h2 h3 h4 h5 args w
def Tr (P:Program) (f:FuncId) (e:List AV→Option AV):Prop:=∀vs r,e vs=some r→∀φ (sK:List Value),LR φ vs sK→∃r',VR φ r r'∧∀w,(callFunc f sK.toArray).run P w= .ok (.value r') w
section
open Fa
noncomputable def l3 {R:Type} (f:AV→AV→AV→R) (d:R) (l:List AV):R:=
 List.rec (motive:=fun _=>R) d (fun a tl _=>List.rec (motive:=fun _=>R) d (fun b tl _=>List.rec (motive:=fun _=>R) d (fun c tl _=>List.rec (motive:=fun _=>R) (f a b c) (fun _ _ _=>d) tl) tl) tl) l
noncomputable def l2 {R:Type} (f:AV→AV→R) (d:R) (l:List AV):R:=
 List.rec (motive:=fun _=>R) d (fun a tl _=>List.rec (motive:=fun _=>R) d (fun b tl _=>List.rec (motive:=fun _=>R) (f a b) (fun _ _ _=>d) tl) tl) l
theorem afI {β:Type} {f:AV→AV→AV→Option β} {l:List AV} {v:β} (h:l3 f none l=some v):∃a b c,l=[a,b,c]∧f a b c=some v:=by
 match l,h with
 | [a,b,c],h=>exact ⟨a,b,c,rfl,h⟩
theorem XW {β:Type} {f:AV→AV→Option β} {l:List AV} {v:β} (h:l2 f none l=some v):∃a b,l=[a,b]∧f a b=some v:=by
 match l,h with
 | [a,b],h=>exact ⟨a,b,rfl,h⟩
noncomputable def n3 (f:Nat→Nat→Nat→Option AV):List AV→Option AV:=
 l3 (fun a b c=>Vg (fun _ x=>Vg (fun _ y=>Vg (fun _ z=>MB (fun x=>MB (fun y=>MB (fun z=>f x y z) none z) none y) none x) none c) none b) none a) none
theorem XY {f:Nat→Nat→Nat→Option AV} {l:List AV} {v:AV} (h:n3 f l=some v):∃(k1 k2 k3:IntKind) (x y z:Nat),l=[.int k1 x,.int k2 y,.int k3 z]∧f x y z=some v:=by
 obtain ⟨a,b,c,rfl,h1⟩:=afI h
 obtain ⟨k1,x,rfl,h2⟩:=wB h1
 obtain ⟨k2,y,rfl,h3⟩:=wB h2
 obtain ⟨k3,z,rfl,h4⟩:=wB h3
 obtain ⟨x',rfl,h5⟩:=wC h4
 obtain ⟨y',rfl,h6⟩:=wC h5
 obtain ⟨z',rfl,h7⟩:=wC h6
 exact ⟨k1,k2,k3,x',y',z',rfl,h7⟩
noncomputable def jk:List AV→Option AV:=n3 fun x y c=>bc (Nat.ble c 1)
 (some (.tuple [.int .u64 (Int.ofNat (Nat.mod (Nat.add (Nat.add x y) c) 18446744073709551616)),.int .u64 (Int.ofNat (Nat.div (Nat.add (Nat.add x y) c) 18446744073709551616))])) none
noncomputable def qk:List AV→Option AV:=n3 fun x y c=>bc (Nat.ble c 1)
 (some (.tuple [.int .u64 (Int.ofNat (Nat.mod (Nat.sub (Nat.sub (Nat.add x 18446744073709551616) y) c) 18446744073709551616)),.int .u64 (Int.ofNat (bc (Nat.ble (Nat.add x 1) (Nat.add y c)) 1 0))])) none
noncomputable def vF (c:Nat) (l:List UInt8):Nat→Int:=List.rec (motive:=fun _=>Nat→Int) (fun _=>Int.negSucc 0) (fun b _ ih i=>bc (Nat.beq b.toBitVec.toFin.val c) (Int.ofNat i) (ih (Nat.add i 1))) l
noncomputable def uF:List AV→Option AV:=l2 (fun a b=>XR (fun s=>Vg (fun k c=>kEl none none none none (MB (fun c=>bc (Nat.ble 256 c) none (some (.int .i64 (vF c s 0)))) none c) none none none k) none b) none a) none
noncomputable def XZ (c:Nat) (l:List UInt8):Nat:=List.rec (motive:=fun _=>Nat) 0 (fun b _ ih=>bc (Nat.beq b.toBitVec.toFin.val c) (Nat.add ih 1) ih) l
noncomputable def F5:List AV→Option AV:=l2 (fun a b=>XR (fun s=>Vg (fun k c=>kEl none none none none (MB (fun c=>bc (Nat.ble 256 c) none (some (.int .i64 (Int.ofNat (XZ c s))))) none c) none none none k) none b) none a) none
end
open Fa
theorem LR.ahJ {φ:Ph} {k1 k2 k3:IntKind} {x y z:Int} {vs:List Value} (h:LR φ [.int k1 x,.int k2 y,.int k3 z] vs):vs=[.int k1 x,.int k2 y,.int k3 z]:=by
 obtain ⟨a,t,rfl,h1,h⟩:=h.eN
 obtain ⟨b,t,rfl,h2,h⟩:=h.eN
 obtain ⟨c,t,rfl,h3,h⟩:=h.eN
 rw[h.fR]
 cases h1;cases h2;cases h3;rfl
theorem X2 (φ:Ph) (a b:Nat):VR φ (.tuple [.int .u64 (Int.ofNat a),.int .u64 (Int.ofNat b)]) (Extern.MathBitsCarry.pair a b):=
 VR.tuple' (i_:=[.int .u64 (Int.ofNat a),.int .u64 (Int.ofNat b)]) (.cons (.int _ _) (.cons (.int _ _) (.nil φ)))
theorem X3 {P:Program} {f:FuncId} (h:zJ P f add64Entry):Tr P f jk:=by
 intro vs r e φ sK hl
 obtain ⟨k1,k2,k3,x,y,c,rfl,e1⟩:=XY e
 obtain ⟨e2,e3⟩:=sM e1
 have e2:=C3 e2
 have e4:=Option.some.inj e3
 rw[hl.ahJ,←e4]
 refine ⟨_,X2 φ _ _,fun w=>?_⟩
 rw[h.run]
 have hc:c=0∨c=1:=by omega
 rcases hc with rfl | rfl<;>rfl
def X4:Array Value→Sem Value:=fun args=>do
 let (x,y,b)←Extern.MathBitsCarry.three "Sub64" args
 pure (Extern.MathBitsCarry.pair ((x+Extern.MathBitsCarry.m64 - y - b)%Extern.MathBitsCarry.m64) (if x<y+b then 1 else 0))
theorem X5 {P:Program} {f:FuncId} (h:zJ P f X4):Tr P f qk:=by
 intro vs r e φ sK hl
 obtain ⟨k1,k2,k3,x,y,c,rfl,e1⟩:=XY e
 obtain ⟨e2,e3⟩:=sM e1
 have e2:=C3 e2
 have e4:=Option.some.inj e3
 rw[hl.ahJ,←e4]
 refine ⟨_,X2 φ _ _,fun w=>?_⟩
 rw[h.run]
 have hif:bc (Nat.ble (Nat.add x 1) (Nat.add y c)) 1 0=if x<y+c then 1 else 0:=by
  by_cases hx:x<y+c
  · rw[if_pos hx,Nat.ble_eq_true_of_le (show Nat.add x 1≤Nat.add y c from hx)];rfl
  · rw[if_neg hx,qc (show Nat.add y c<Nat.add x 1 from Nat.lt_succ_of_le (Nat.le_of_not_lt hx))];rfl
 rw[hif]
 have hc:c=0∨c=1:=by omega
 rcases hc with rfl | rfl<;>rfl
theorem u8v (b:UInt8) {c:Nat} (hc:c<256):Nat.beq b.toBitVec.toFin.val c=(b==c.toUInt8):=by
 by_cases h:b=c.toUInt8
 · subst h
   rw[show (c.toUInt8).toBitVec.toFin.val=c from by
    show (UInt8.ofNat c).toNat=c
    simp [Nat.mod_eq_of_lt hc]]
   rw[Nat.beq_refl];simp
 · rw[show (b==c.toUInt8)=false by simp [h]]
   cases hb:Nat.beq b.toBitVec.toFin.val c
   · rfl
   · exfalso;apply h
     have:=Nat.eq_of_beq_eq_true hb
     have e:b.toNat=c:=this
     apply UInt8.toNat_inj.mp
     rw[e];show c=(UInt8.ofNat c).toNat;simp [Nat.mod_eq_of_lt hc]
theorem Ts {c:Nat} (hc:c<256):∀(l:List UInt8) (i:Nat),vF c l i=if Lib.indexByte l c.toUInt8= -1 then -1 else (i:Int)+Lib.indexByte l c.toUInt8
 | [],i=>rfl
 | b::l,i=>by
   show bc (Nat.beq b.toBitVec.toFin.val c) (Int.ofNat i) (vF c l (i+1))=_
   rw[u8v b hc,Ts hc l (i+1),Lib.indexByte]
   have Ri:=Lib.indexByte_ge l c.toUInt8
   generalize Lib.indexByte l c.toUInt8=q at Ri
   cases b==c.toUInt8 with
   | true=>
     rw[Tp,if_pos rfl]
     rw[if_neg (by decide)];simp
   | false=>
     rw[MC]
     by_cases hx:q= -1
     · subst hx;rfl
     · have:(q== -1)=false:=by simpa using hx
       rw[this]
       simp only[Bool.false_eq_true,if_false]
       rw[if_neg hx,if_neg (by omega)];omega
theorem Ku {P:Program} {f:FuncId} (h:zJ P f Extern.BytealgIndexByte.indexByte):Tr P f uF:=by
 intro vs r e φ sK hl
 obtain ⟨a,b,rfl,e1⟩:=XW e
 obtain ⟨s,rfl,e2⟩:=F4 e1
 obtain ⟨k,n,rfl,e3⟩:=wB e2
 cases k<;>try (exact absurd e3 (by intro x;cases x))
 obtain ⟨c,rfl,e4⟩:=wC (show MB (fun c=>bc (Nat.ble 256 c) none (some (.int .i64 (vF c s 0)))) none n=some r from e3)
 obtain ⟨e5,e6⟩:=Tq e4
 have e5:=XV e5
 obtain ⟨x,t,rfl,h1,hl⟩:=hl.eN
 obtain ⟨y,t,rfl,h2,hl⟩:=hl.eN
 rw[hl.fR]
 obtain ⟨sb,rfl,hsb⟩:∃sb:ByteArray,x= .string sb∧sb.data.toList=s:=by cases h1;exact ⟨_,rfl,rfl⟩
 subst hsb
 cases h2
 refine ⟨.int .i64 (firstIdx sb ((c:Int)).toNat.toUInt8),?_,fun w=>?_⟩
 · rw[←Option.some.inj e6,Ts e5,Lib.firstIdx_eq]
   show VR φ (.int .i64 (if Lib.indexByte sb.data.toList c.toUInt8= -1 then -1 else ((0:Nat):Int)+Lib.indexByte sb.data.toList c.toUInt8)) (.int .i64 (Lib.indexByte sb.data.toList c.toUInt8))
   by_cases hx:Lib.indexByte sb.data.toList c.toUInt8= -1
   · rw[if_pos hx,hx];exact .int _ _
   · rw[if_neg hx];simp only[Int.natCast_zero,Int.zero_add];exact .int _ _
 · rw[h.run]
   show ((Extern.BytealgIndexByte.indexByte #[.string sb,.int .u8 (c:Int)]).run P w).andThen _=_
   rw[run_indexByte_string];rfl
theorem Tt {c:Nat} (hc:c<256):∀(l:List UInt8),XZ c l=Lib.countByte l c.toUInt8
 | []=>rfl
 | b::l=>by
   show bc (Nat.beq b.toBitVec.toFin.val c) (XZ c l+1) (XZ c l)=_
   rw[u8v b hc,Tt hc l]
   unfold Lib.countByte
   rw[List.count_cons]
   cases b==c.toUInt8<;>rfl
theorem Kv {P:Program} {f:FuncId} (h:zJ P f Extern.BytealgCount.count):Tr P f F5:=by
 intro vs r e φ sK hl
 obtain ⟨a,b,rfl,e1⟩:=XW e
 obtain ⟨s,rfl,e2⟩:=F4 e1
 obtain ⟨k,n,rfl,e3⟩:=wB e2
 cases k<;>try (exact absurd e3 (by intro x;cases x))
 obtain ⟨c,rfl,e4⟩:=wC (show MB (fun c=>bc (Nat.ble 256 c) none (some (.int .i64 (Int.ofNat (XZ c s))))) none n=some r from e3)
 obtain ⟨e5,e6⟩:=Tq e4
 have e5:=XV e5
 obtain ⟨x,t,rfl,h1,hl⟩:=hl.eN
 obtain ⟨y,t,rfl,h2,hl⟩:=hl.eN
 rw[hl.fR]
 obtain ⟨sb,rfl,hsb⟩:∃sb:ByteArray,x= .string sb∧sb.data.toList=s:=by cases h1;exact ⟨_,rfl,rfl⟩
 subst hsb
 cases h2
 refine ⟨.int .i64 (Lib.countByte sb.data.toList ((c:Int)).toNat.toUInt8),?_,fun w=>?_⟩
 · rw[←Option.some.inj e6,Tt e5];exact .int _ _
 · rw[h.run]
   show ((Extern.BytealgCount.count #[.string sb,.int .u8 (c:Int)]).run P w).andThen _=_
   rw[Lib.run_countString];rfl
end Go.Ab
end
section
namespace Go.Ab
open Go.Maps Go.WideElems Go.RowKit Go.Proofs
section
open Fa
noncomputable def ltF (a:List UInt8):List UInt8→Bool:=
 List.rec (motive:=fun _=>List UInt8→Bool) (fun b=>List.rec (motive:=fun _=>Bool) false (fun _ _ _=>true) b)
  (fun x _ ih b=>List.rec (motive:=fun _=>Bool) false (fun y tl _=>bc (Nat.ble (Nat.add x.toBitVec.toFin.val 1) y.toBitVec.toFin.val) true (bc (Nat.beq x.toBitVec.toFin.val y.toBitVec.toFin.val) (ih tl) false)) b) a
noncomputable def X6 (x:List UInt8) (l:List (List UInt8)):List (List UInt8):=List.rec (motive:=fun _=>List (List UInt8)) [x] (fun y tl ih=>bc (ltF x y) (x::y::tl) (y::ih)) l
noncomputable def Kw (l:List (List UInt8)):List (List UInt8):=List.rec (motive:=fun _=>List (List UInt8)) [] (fun x _ ih=>X6 x ih) l
noncomputable def E' (l:List (List UInt8)):Bool:=List.rec (motive:=fun _=>Bool) true (fun x tl ih=>List.rec (motive:=fun _=>Bool) true (fun y _ _=>bc (ltF x y) ih false) tl) l
noncomputable def X7 (es:List lh):Option (List (List UInt8)):=List.rec (motive:=fun _=>Option (List (List UInt8))) (some []) (fun e _ ih=>XR (fun s=>bc (Nat.ble (Kr s) 100000) (ob none (fun l=>some (s::l)) ih) none) none e.key) es
noncomputable def ME (es:List lh):List Nat:=List.rec (motive:=fun _=>List Nat) [] (fun e _ ih=>e.born::ih) es
noncomputable def l1 {R:Type} (f:AV→R) (d:R) (l:List AV):R:=List.rec (motive:=fun _=>R) d (fun a tl _=>List.rec (motive:=fun _=>R) (f a) (fun _ _ _=>d) tl) l
noncomputable def ad0 {R:Type} (f:List lh→Nat→R) (d:R) (o:ar):R:=
 ar.rec (motive:=fun _=>R) (fun _ _ _=>d) (fun es c=>f es c) (fun _ _=>d) (fun _ _ _ _=>d) (fun _ _ _ _ _ _ _=>d) d o
noncomputable def Vi (ql:TypeId) (h:ah) (rs:List (List UInt8)):Option (AV×ah):=List.rec (motive:=fun _=>Option (AV×ah)) (some (.ax,h))
 (fun _ _ _=>ob none (fun h'=>some (.slice h.nx 0 (Kr rs) (Kr rs) true,h')) (h.new (.cells (rs.map .str) ql false))) rs
noncomputable def Kx (Tu:FuncId) (ql:TypeId) (args:List AV) (h:ah):Option (AV×ah):=
 l1 (fun a=>adX (fun g first cap=>bc (Nat.beq g Tu) (adY (l1 (fun p=>ahH (fun c o=>bc (Nat.beq o 0) (ob none (fun obj=>XS (fun cs _ ro=>bc ro (l1 (fun m=>afH none (fun i=>ob none (fun ahL=>ad0 (fun es clock=>
  ob none (fun ks=>bc (Nat.ble (Kr es) 100000) (bc (afF (fun e=>Nat.ble (Nat.add e.born 1) clock) es) (bc (Rw (ME es)) (Ru (Kw ks) fun rs=>bc (E' rs) (Vi ql h rs) none) none) none) none) (X7 es))
  none ahL) (h.get i)) none m) none cs) none) none obj) (h.get c)) none) none p) none cap) none first) none) (fun _=>none) none a) none args
theorem Ky {β:Type} {f:AV→Option β} {l:List AV} {v:β} (h:l1 f none l=some v):∃a,l=[a]∧f a=some v:=by
 match l,h with
 | [a],h=>exact ⟨a,rfl,h⟩
theorem Vj {α β:Type} {x:Option β} {l:List α} {v:β} (h:adY x none l=some v):l=[]∧x=some v:=by
 cases l with
 | nil=>exact ⟨rfl,h⟩
 | cons a l=>cases h
theorem Vk {β:Type} {f:FuncId→List AV→List AV→Option β} {a:AV} {v:β} (h:adX f (fun _=>none) none a=some v):∃g x y,a= .func g x y∧f g x y=some v:=by
 cases a with
 | func g x y=>exact ⟨g,x,y,rfl,h⟩
 | _=>exact absurd h (by intro e;cases e)
theorem MF {β:Type} {f:Nat→Option β} {a:AV} {v:β} (h:afH none f none a=some v):∃i,a= .map i∧f i=some v:=by
 cases a with
 | map i=>exact ⟨i,rfl,h⟩
 | _=>exact absurd h (by intro e;cases e)
theorem Vl {β:Type} {f:List lh→Nat→Option β} {o:ar} {v:β} (h:ad0 f none o=some v):∃es c,o= .map es c∧f es c=some v:=by
 cases o with
 | map es c=>exact ⟨es,c,rfl,h⟩
 | _=>exact absurd h (by intro e;cases e)
theorem X8:∀(a b:List UInt8),ltF a b=true→a<b
 | [],[],e=>by cases e
 | [],y::b,_=>List.nil_lt_cons _ _
 | x::a,[],e=>by cases e
 | x::a,y::b,e=>by
   have e:bc (Nat.ble (x.toNat+1) y.toNat) true (bc (Nat.beq x.toNat y.toNat) (ltF a b) false)=true:=e
   cases h:Nat.ble (x.toNat+1) y.toNat with
   | true=>exact List.cons_lt_cons_iff.2 (.inl (UInt8.lt_iff_toNat_lt.2 (C3 h)))
   | false=>
     rw[h,MC] at e
     cases h2:Nat.beq x.toNat y.toNat with
     | true=>
       rw[h2,Tp] at e
       exact List.cons_lt_cons_iff.2 (.inr ⟨UInt8.toNat_inj.mp (Ry h2),X8 a b e⟩)
     | false=>rw[h2] at e;cases e
theorem F6 (x:List UInt8):∀l,(X6 x l).Perm (x::l)
 | []=>List.Perm.refl _
 | y::tl=>by
   show (bc (ltF x y) (x::y::tl) (y::X6 x tl)).Perm _
   cases ltF x y with
   | true=>exact List.Perm.refl _
   | false=>exact ((F6 x tl).cons y).trans (List.Perm.swap x y tl)
theorem DV:∀l,(Kw l).Perm l
 | []=>List.Perm.refl _
 | x::l=>(F6 x (Kw l)).trans ((DV l).cons x)
theorem nE:∀l,E' l=true→l.Pairwise (· < ·)
 | [],_=> .nil
 | [x],_=>by simp
 | x::y::l,e=>by
   have e:bc (ltF x y) (E' (y::l)) false=true:=e
   rw[XT,Bool.and_eq_true] at e
   have ih:=nE (y::l) e.2
   refine .cons (fun z hz=>?_) ih
   have h1:=X8 x y e.1
   rcases List.mem_cons.1 hz with rfl | hz
   · exact h1
   · exact List.lt_trans h1 ((List.pairwise_cons.1 ih).1 z hz)
theorem Iw {rs ks:List (List UInt8)} (h:E' rs=true) (hp:rs.Perm ks):ks.mergeSort leB=rs:=by
 have hs:=nE rs h
 have tr:∀a b c:List UInt8,leB a b=true→leB b c=true→leB a c=true:=fun a b c h1 h2=>by simp only[leB,decide_eq_true_eq] at *;exact List.le_trans h1 h2
 have to:∀a b:List UInt8,(leB a b||leB b a)=true:=fun a b=>by simp only[leB,Bool.or_eq_true,decide_eq_true_eq];exact List.le_total a b
 refine List.Perm.eq_of_pairwise (le:=fun a b=>leB a b=true) (fun a b _ _ h1 h2=>?_) (List.pairwise_mergeSort tr to ks) (hs.imp fun {a b} fW=>?_) ((List.mergeSort_perm ks leB).trans hp.symm)
 · simp only[leB,decide_eq_true_eq] at h1 h2
   exact List.le_antisymm h1 h2
 · simp only[leB,decide_eq_true_eq];exact List.le_of_lt fW
theorem F7 {φ:Ph}:∀{es:List lh} {ks:List (List UInt8)} (_:X7 es=some ks) {km:List MapEntry} (_:ESR φ es km),km.map (·.key)=ks.map encStr∧∀k∈ks,k.length≤100000
 | [],ks,h,km,hr=>by
   cases h
   have:km=[]:=List.eq_nil_of_length_eq_zero hr.1.symm
   subst this;simp
 | e::es,ks,h,km,hr=>by
   obtain ⟨s,hk,h1⟩:=F4 (show XR (fun s=>bc (Nat.ble (Kr s) 100000) (ob none (fun l=>some (s::l)) (X7 es)) none) none e.key=some ks from h)
   obtain ⟨h2,h3⟩:=sM h1
   obtain ⟨l,h4,h5⟩:=F3 h3
   have h2:=C3 h2
   rw[Kt] at h2
   have h5:=Option.some.inj h5
   subst h5
   obtain ⟨hl,hv⟩:=hr
   match km,hl,hv with
   | e'::km,hl,hv=>
     obtain ⟨i1,i2⟩:=F7 h4 (km:=km) ⟨by simpa using hl,fun i x y a b=>hv (i+1) x y (by simpa using a) (by simpa using b)⟩
     have:=(hv 0 e e' (by simp) (by simp)).key
     rw[hk] at this
     generalize hq:e'.key=q at this
     cases this with
     | str sb=>
       refine ⟨?_,fun k hk=>?_⟩
       · simp only[List.map_cons,i1,hq]
       · rcases List.mem_cons.1 hk with rfl | hk
         · exact h2
         · exact i2 k hk
end
open Fa
theorem MG (es:List lh):ME es=es.map (·.born):=by
 induction es with
 | nil=>rfl
 | cons e es ih=>show e.born::ME es=_;rw[ih];rfl
theorem DW:∀l:List Nat,nodup l=true→l.Nodup
 | [],_=>List.nodup_nil
 | x::xs,e=>by
   rw[nodup,Bool.and_eq_true] at e
   rw[List.nodup_cons]
   exact ⟨by simpa using e.1,DW xs e.2⟩
theorem OK.later {E:Env} {φ:Ph} {h:ah} {w w':World} (ok:OK E φ h w) (b:Below w.heap.size w w'):OK E φ h w'∧Fr φ h w φ h w':=by
 have EG:∀j p m,h.get j=some p→φ j=some m→m.fO<w.heap.size:=fun j p m hj hm=>by
  have LY:=ok.live j p m hj hm
  rcases Nat.lt_or_ge m.fO w.heap.size with a | a
  · exact a
  · exfalso
    rw[Array.getElem?_eq_none a] at LY
    exact LY.absurd
 refine ⟨⟨ok.ED,ok.nx,ok.Aa,fun i o l h1 h2=>?_,ok.inj⟩,⟨Ph.le_refl φ,fun _ _=>rfl,Nat.le_refl _,b.os,b.tape,b.output,b.size,fun c hc _=>b.block c hc,fun i o l h1 h2 h3=> .inr ⟨i,o,l,h1,h2,h3,rfl⟩⟩⟩
 rw[b.block _ (EG i o l h1 h2)]
 exact ok.live i o l h1 h2
def Jc (P:Program) (f Tu:FuncId) (ql:TypeId):Prop:=∀(b c nn:Nat) (W:World) (D0:DataW Unit) (R:Value→Option (DataW Unit×List MemPlace)),c<W.heap.size→W.cell? ⟨c,0,none⟩=some (.map (some b))→W.ownsMap P ql R b nn D0→
 Maps.size D0≤maxLen→Maps.size D0*16≤140737488355328→
 Calls P f #[.func (.func Tu) #[] #[.pointer (some ⟨c,0,none⟩)]] W fun e w'=>∃(v:Value) (ss:List (List UInt8)),e= .returned v∧ss.Perm (strKeys D0)∧
  w'.ownsRow W.heap.size ql 1 v ss.length ((ss.mergeSort (fun x y=>decide (x≤y))).map encStr)∧(v= .slice none 0 0↔ss=[])∧Below W.heap.size W w'
theorem Rz {E:Env} {f Tu:FuncId} {ql:TypeId} (hk:E.P.underlying ql=some .string) (QO:bK E ql=some 1) (cE:∀args w,(callFunc f args).run E.P w= .ok (.enter f args) w) (hc:Jc E.P f Tu ql)
 (args:List AV) (h:ah) (v:AV) (h':ah) (e:Kx Tu ql args h=some (v,h')):iN E f args h v h':=by
 intro φ w vs ok hl
 refine ⟨cE _ _,?_⟩
 unfold Kx at e
 obtain ⟨a,rfl,e1⟩:=Ky e
 obtain ⟨g,first,cap,rfl,e2⟩:=Vk e1
 obtain ⟨hg,e3⟩:=sM e2
 have hg:=Ry hg
 subst hg
 obtain ⟨rfl,e4⟩:=Vj e3
 obtain ⟨p,rfl,e5⟩:=Ky e4
 obtain ⟨c,o,rfl,e6⟩:=XU e5
 obtain ⟨ho,e7⟩:=sM e6
 have ho:=Ry ho
 subst ho
 obtain ⟨obj,hgc,e8⟩:=F3 e7
 obtain ⟨cs,el,ro,rfl,e9⟩:=Rx e8
 obtain ⟨hro,e9⟩:=sM e9
 subst hro
 obtain ⟨m,rfl,e10⟩:=Ky e9
 obtain ⟨i,rfl,e11⟩:=MF e10
 obtain ⟨ahL,hgi,e12⟩:=F3 e11
 obtain ⟨es,clock,rfl,e13⟩:=Vl e12
 obtain ⟨ks,hks,e14⟩:=F3 e13
 obtain ⟨X9,e15⟩:=sM e14
 obtain ⟨ad1,e16⟩:=sM e15
 obtain ⟨oV,e17⟩:=sM e16
 rw[Vh] at e17
 obtain ⟨ja,e18⟩:=sM e17
 have X9:=C3 X9
 rw[Kt] at X9
 rw[acj,List.all_eq_true] at ad1
 rw[Jb] at oV
 generalize hrs:Kw ks=rs at ja e18
 have ad2:rs.Perm ks:=hrs▸DV ks
 obtain ⟨x,t,rfl,hx,hl⟩:=hl.eN
 rw[hl.fR]
 obtain ⟨a',b',rfl,ha,hb⟩:=hx.A8
 have ha':a'= #[]:=by have:=ha.fR;simpa using this
 subst ha'
 obtain ⟨y,t,hbt,hy,hb⟩:=hb.eN
 have hb':b'= #[y]:=by rw[hb.fR] at hbt;exact Array.ext' (by simpa using hbt)
 subst hb'
 generalize hyy:y=yy at hy
 cases hy with
 | ptr _ hφc=>
 rename_i lc
 subst hyy
 obtain ⟨C,e',lo,hi,hwc,hCR⟩:=ok.live c _ lc hgc hφc
 obtain ⟨z,hz,hzv⟩:=hCR.val 0 (.map i) rfl
 generalize Jd:z=zz at hzv
 cases hzv with
 | map hφi=>
 rename_i lm
 subst Jd
 have Mz:=hCR.zero rfl i rfl
 have X_:w.cell? ⟨lc.fO,0,none⟩=some (.map (some lm.fO)):=by simp only[World.cell?,hwc];rw[Mz] at hz;exact hz
 have akV:lc.fO<w.heap.size:=(Array.getElem?_eq_some_iff.1 hwc).1
 obtain ⟨_,km,hwm,Vm⟩:=ok.live i _ lm hgi hφi
 obtain ⟨Tv,hlen⟩:=F7 hks Vm
 have fw:km.size=es.length:=by rw[←Array.length_toList];exact Vm.1.symm
 have Q3:ks.length=es.length:=by
  have:=congrArg List.length Tv
  simp only[List.length_map,Array.length_toList] at this;omega
 have ahM:ks.Nodup:=(ad2.nodup_iff).1 ((nE rs ja).imp fun {a b} fW e=>by subst e;exact List.lt_irrefl _ fW)
 have Ya:km.toList.map (·.born)=ME es:=by
  rw[MG]
  apply List.ext_getElem?
  intro j
  rw[List.getElem?_map,List.getElem?_map]
  by_cases hj:j<es.length
  · have h1:es[j]? =some es[j]:=by simp [hj]
    have Ae:j<km.toList.length:=by rw[←Vm.1];exact hj
    have h2:km.toList[j]? =some km.toList[j]:=by simp
    rw[h1,h2,Option.map_some,Option.map_some,(Vm.2 j _ _ h1 h2).born]
  · rw[List.getElem?_eq_none (by rw[←Vm.1];omega),List.getElem?_eq_none (by omega)];rfl
 let R:Value→Option (DataW Unit×List MemPlace):=fun _=>some (.nil,[])
 have hrd:∀x∈km.toList,∃s:List UInt8,x.key=encStr s∧rd E.P ql R x=some (.string s,.nil):=by
  intro x hx
  have:x.key∈ks.map encStr:=Tv▸List.mem_map.2 ⟨x,hx,rfl⟩
  obtain ⟨s,hs,hsx⟩:=List.mem_map.1 this
  refine ⟨s,hsx.symm,?_⟩
  have h1:(⟨s.toArray⟩:ByteArray).size≤maxLen:=by
   have:=hlen s hs
   show s.toArray.size≤maxLen
   rw[List.size_toArray];exact Nat.le_trans this (by decide)
  unfold rd
  rw[←hsx]
  simp only[keyOf,hk,mapKey,R]
  rw[if_pos h1]
  simp
 have akW:Fit E.P ql R km clock:=by
  refine ⟨by rw[fw];exact Nat.le_trans X9 (by decide),⟨fun x hx=>?_,?_,?_⟩,fun x hx=>?_⟩
  · have h1:x.born∈ME es:=Ya▸List.mem_map.2 ⟨x,hx,rfl⟩
    rw[MG] at h1
    obtain ⟨y,hy,hyx⟩:=List.mem_map.1 h1
    have:=C3 (ad1 y hy)
    rw[←hyx];exact this
  · rw[Ya];exact DW _ oV
  · rw[Tv]
    exact List.pairwise_map.2 (ahM.imp fun {a b} fW h=>fW (by simpa [encStr] using h))
  · obtain ⟨s,_,h⟩:=hrd x hx;exact ⟨_,h⟩
 let D0:DataW Unit:= .map ((km.toList.map (rg E.P ql R)).foldr DataW.insert [])
 have afJ:w.ownsMap E.P ql R lm.fO km.size D0:=⟨km,clock,hwm,akW,Nat.le_refl _,rfl⟩
 have Yb:Maps.size D0=es.length:=by
  show ((km.toList.map (rg E.P ql R)).foldr DataW.insert []).length=_
  rw[(Go.WideShapes.sorted_perm _).length_eq,List.length_map];exact Vm.1.symm
 have akX:(strKeys D0).Perm ks:=by
  have h1:(strKeys D0).Perm ((km.toList.map (rg E.P ql R)).map fun p=>strOf p.1):=(Go.WideShapes.sorted_perm (km.toList.map (rg E.P ql R))).map _
  refine h1.trans (List.Perm.of_eq ?_)
  have h2:(km.toList.map (rg E.P ql R)).map (fun p=>strOf p.1)=km.toList.map fun x=>strOf (rg E.P ql R x).1:=by rw[List.map_map];rfl
  rw[h2]
  have h3:ks=(ks.map encStr).map fun v=>match v with | .string s=>s.data.toList | _=> []:=by
   rw[List.map_map]
   symm
   rw[show ((fun v=>match v with | .string s=>s.data.toList | _=>([]:List UInt8))∘encStr)=id from funext fun s=>by simp]
   exact List.map_id _
  rw[h3,←Tv,List.map_map]
  apply List.map_congr_left
  intro x hx
  obtain ⟨s,h4,h5⟩:=hrd x hx
  have:rg E.P ql R x=(.string s,.nil):=by unfold rg;rw[h5];rfl
  rw[this]
  simp [strOf,h4,encStr]
 have hcl:=hc lm.fO lc.fO km.size w D0 R akV X_ afJ (by rw[Yb];exact Nat.le_trans X9 (by decide)) (by rw[Yb];omega)
 intro cs
 obtain ⟨en,w',fr,⟨v',ss,rfl,hS,yU,FH,Vn⟩,wj,E_,WT⟩:=hcl cs
 have Yc:ss.mergeSort (fun x y=>decide (x≤y))=rs:=(mergeSort_of_perm (hS.trans akX)).trans (Iw ja ad2)
 have hsl:ss.length=rs.length:=by rw[←Yc,List.length_mergeSort]
 rw[Yc] at yU
 have Ba:([Value.func (.func g) #[] #[.pointer (some ⟨lc.fO,lc.off+0,none⟩)]]:List Value).toArray= #[.func (.func g) #[] #[.pointer (some ⟨lc.fO,0,none⟩)]]:=by rw[Mz]
 rw[Ba]
 cases rs with
 | nil=>
   have e18:some (AV.ax,h)=some (v,h'):=e18
   simp only[Option.some.injEq,Prod.mk.injEq] at e18
   obtain ⟨rfl,rfl⟩:=e18
   have:v'= .slice none 0 0:=FH.2 (List.eq_nil_of_length_eq_zero hsl)
   subst this
   obtain ⟨h1,h2⟩:=ok.later Vn
   exact ⟨φ,w',_,fr,.ax,h1,h2,wj,E_,WT⟩
 | cons r0 rs=>
   obtain ⟨hh,vA,MH⟩:=adZ (show ob none (fun h'=>some (AV.slice h.nx 0 (Kr (r0::rs)) (Kr (r0::rs)) true,h')) (h.new (.cells ((r0::rs).map .str) ql false))=some (v,h') from e18)
   simp only[Prod.mk.injEq] at MH
   obtain ⟨rfl,rfl⟩:=MH
   rw[Kt]
   obtain ⟨_,yU⟩:=yU
   rcases yU with ⟨_,hz0⟩ | ⟨gb,cap,cur,rfl,ahN,hgb,U7,_,Iv,Yd⟩
   · rw[hsl] at hz0;simp at hz0
   rw[Nat.mul_one] at Iv Yd
   rw[hsl] at U7 Yd
   generalize hR:r0::rs=rr at *
   obtain ⟨rJ,vB,hle⟩:=ok.fresh (w':=w') vA ⟨gb,0,cap - rr.length⟩ (by
    refine ⟨cur,ql,0,0,hgb,?_,fun k x IZ=>?_,fun _ k _ _=>by omega,fun _ _ _=>rfl⟩
    · simp only[e_,QO,Option.getD_some,List.length_map];omega
    · rw[List.getElem?_map,Option.map_eq_some_iff] at IZ
      obtain ⟨s,hs,rfl⟩:=IZ
      refine ⟨encStr s,?_,?_⟩
      · have:(cur.toList.take rr.length)[k]? =some (encStr s):=by rw[Yd,List.getElem?_map,hs];rfl
        rw[List.getElem?_take] at this
        split at this
        · rw[Nat.zero_add,←Array.getElem?_toList];exact this
        · cases this
      · have:=VR.str (φ:=φ.add h.nx ⟨gb,0,cap - rr.length⟩) (⟨s.toArray⟩:ByteArray)
        simpa using this) (fun c _ hc'=>Vn.block c hc') Vn.size ahN Vn.os Vn.tape Vn.output
   refine ⟨_,w',_,fr,?_,rJ,vB,wj,E_,WT⟩
   have ju:(φ.add h.nx ⟨gb,0,cap - rr.length⟩) h.nx=some ⟨gb,0,cap - rr.length⟩:=by simp [Ph.add]
   have:=VR.slice (φ:=φ.add h.nx ⟨gb,0,cap - rr.length⟩) (l:=⟨gb,0,cap - rr.length⟩) 0 rr.length rr.length true ju
   rw[hsl]
   simpa [gC,Nat.add_sub_cancel' U7] using this
noncomputable def ad3 (Tu:FuncId) (EK:TypeId) (args:List AV) (h:ah):Option (AV×ah):=
 l1 (fun a=>afH none (fun i=>ob none (fun h'=>some (.func Tu [] [.ptr h.nx 0],h')) (h.new (.cells [.map i] EK true))) none a) none args
def Je (P:Program) (f Tu:FuncId) (EK:TypeId):Prop:=∀(mb:Option Nat) (W:World),Calls P f #[.map mb] W fun e w'=>e= .returned (.func (.func Tu) #[] #[.pointer (some ⟨W.heap.size,0,none⟩)])∧w'=W.alloc (.cells #[.map mb] EK)
theorem Ye {E:Env} {f Tu:FuncId} {EK:TypeId} (cE:∀args w,(callFunc f args).run E.P w= .ok (.enter f args) w) (hc:Je E.P f Tu EK) (args:List AV) (h:ah) (v:AV) (h':ah) (e:ad3 Tu EK args h=some (v,h')):iN E f args h v h':=by
 intro φ w vs ok hl
 refine ⟨cE _ _,?_⟩
 obtain ⟨a,rfl,e1⟩:=Ky e
 obtain ⟨i,rfl,e2⟩:=MF e1
 obtain ⟨hh,vA,MH⟩:=adZ e2
 simp only[Prod.mk.injEq] at MH
 obtain ⟨rfl,rfl⟩:=MH
 obtain ⟨x,t,rfl,hx,hl⟩:=hl.eN
 rw[hl.fR]
 cases hx with
 | map hφ=>
 rename_i lm
 intro cs
 obtain ⟨en,w',fr,⟨rfl,rfl⟩,wj,E_,WT⟩:=hc (some lm.fO) w cs
 obtain ⟨rJ,vB,hle⟩:=ok.fresh (w':=w.alloc (.cells #[.map (some lm.fO)] EK)) vA ⟨w.heap.size,0,0⟩ (by
  refine ⟨#[.map (some lm.fO)],EK,0,0,?_,?_,fun k x hk=>?_,fun _ k _ _=>by omega,fun _ _ _=>rfl⟩
  · rw[show (w.alloc (.cells #[.map (some lm.fO)] EK)).heap=w.heap.push (.cells #[.map (some lm.fO)] EK) from rfl];simp
  · simp [e_]
  · cases k with
    | zero=>
      simp at hk;subst hk
      refine ⟨.map (some lm.fO),by simp,?_⟩
      have cR:i≠h.nx:=fun e=>by have:=ok.ED _ _ hφ;omega
      exact VR.map (l:=lm) (by simp [Ph.add,cR,hφ])
    | succ k=>simp at hk) (fun c cR hc'=>by rw[show (w.alloc (.cells #[.map (some lm.fO)] EK)).heap=w.heap.push (.cells #[.map (some lm.fO)] EK) from rfl,Array.getElem?_push,if_neg (by omega)]) (by simp) (Nat.le_refl _) rfl rfl rfl
 refine ⟨_,_,_,fr,?_,rJ,vB,wj,E_,WT⟩
 exact VR.Tc Tu (a':=[]) (b':=[.pointer (some ⟨w.heap.size,0,none⟩)]) (LR.nil _) (.cons (VR.ptr (l:=⟨w.heap.size,0,0⟩) 0 (by simp [Ph.add])) (LR.nil _))
end Go.Ab
end
section
namespace Go.Ab
structure Tab where
 g:Nat
 k:IntKind
 ns:List Nat
 t:TypeId
def Tab.cells (x:Tab):List AV:=x.ns.map fun n=>AV.int x.k (Int.ofNat n)
noncomputable def j7 (G:Nat):List Tab→ah
 | []=>⟨HT.nil,G,fun _=>none⟩
 | x::xs=>(j7 G xs).put x.g (some (.cells x.cells x.t true))
theorem ack (i:Nat) (G:Nat):(ah.mk HT.nil G fun _=>none).get i=none:=by
 by_cases hi:i<262144
 · rw[ah.Ac hi]
   rw[Fz hi,CT,Fy]
   simp only[HT.nil,Ta]
 · rw[ah.uw hi]
theorem yh (G:Nat):∀l,(j7 G l).nx=G
 | []=>rfl
 | _::xs=>yh G xs
theorem uG {G:Nat}:∀{l:List Tab} {i:Nat} {o:ar},(j7 G l).get i=some o→∃x∈l,x.g=i∧o= .cells x.cells x.t true
 | [],i,o,e=>by rw[j7,ack] at e;cases e
 | x::xs,i,o,e=>by
   rw[j7] at e
   by_cases h:x.g=i
   · subst h
     rw[ah.eF] at e
     exact ⟨x,by simp,rfl,(Option.some.inj e).symm⟩
   · rw[ah.bZ h] at e
     obtain ⟨y,hy,h1,h2⟩:=uG e
     exact ⟨y,by simp [hy],h1,h2⟩
def Yf (w:World) (x:Tab):Prop:=∃C e fz,w.heap[x.g]? =some (.cells C e fz)∧C.toList=x.ns.map fun n=>Value.int x.k (Int.ofNat n)
def phG (G:Nat):Ph:=fun i=>if i<G then some ⟨i,0,0⟩ else none
theorem OK.begin {E:Env} {w:World} {l:List Tab} (hl:∀x∈l,x.g<E.G∧Yf w x):OK E (phG E.G) (j7 E.G l) w:=by
 refine ⟨fun i l' h=>?_,?_,fun g hg=>?_,fun i o l' h1 h2=>?_,fun i j o p l' m _ _ h3 h4 _ h5=>?_⟩
 · unfold phG at h;rw[yh];split at h
   · assumption
   · cases h
 · rw[yh];exact Nat.le_refl _
 · unfold phG;rw[if_pos hg]
 · obtain ⟨x,hx,rfl,rfl⟩:=uG h1
   obtain ⟨hg,C,e,⟨lo,hi⟩,hw,hC⟩:=hl x hx
   unfold phG at h2;rw[if_pos hg] at h2
   obtain rfl:=Option.some.inj h2
   refine ⟨C,e,lo,hi,hw,?_,?_,(fun h=>by cases h),fun _ _ _=>rfl⟩
   · have:C.size=x.ns.length:=by rw[←Array.length_toList,hC,List.length_map]
     simp [Tab.cells,e_,this]
   · intro k y hk
     simp only[Tab.cells,List.getElem?_map,Option.map_eq_some_iff] at hk
     obtain ⟨n,hn,rfl⟩:=hk
     refine ⟨.int x.k (Int.ofNat n),?_,.int _ _⟩
     rw[Nat.zero_add,←Array.getElem?_toList,hC,List.getElem?_map,hn];rfl
 · unfold phG at h3 h4
   split at h3
   · split at h4
     · obtain rfl:=Option.some.inj h3
       obtain rfl:=Option.some.inj h4
       exact h5
     · cases h4
   · cases h3
theorem MI {H:Type} {enc:TypeId×Value→H} {P:Program} {W:World} {name:String} {g:Nat} {t el:TypeId} {k:IntKind} {ns:List Nat} {cs:Array Value} (hg:P.globalNamed name=some g) (hv:W.var? P name=some cs)
 (hu:P.underlying t=some (.array ns.length el)) (he:P.underlying el=some (.int k)) (hc:P.cellsOf el=1) (hct:P.cellsOf t=ns.length) {base:Nat} {sp:Nat→Bool} {held:Bool} {fuel:Nat} {x:DataW H×List MemPlace}
 (hd:DataW.trod enc P W base sp held fuel t cs.toList=some x) (hx:x.1= .agg (ns.map fun n=> .lit (.int k (Int.ofNat n)))) (t':TypeId):Yf W ⟨g,k,ns,t'⟩:=by
 obtain ⟨xs,m,_,ex,hl,hn,hel⟩:=DataW.trod_array hu hd
 have e3:xs.map (·.1)=ns.map fun n=>DataW.lit (.int k (Int.ofNat n)):=by rw[ex] at hx;exact DataW.agg.inj hx
 simp only[World.var?,hg,Option.bind_some] at hv
 split at hv
 · rename_i C e fz hw
   obtain rfl:=Option.some.inj hv
   refine ⟨C,e,fz,hw,?_⟩
   apply List.ext_getElem?
   intro i
   by_cases hi:i<ns.length
   · have h1:=hel i hi
     rw[hc,Nat.mul_one,List.getElem?_eq_getElem (by omega)] at h1
     obtain ⟨z,e1,e2,_⟩:=DataW.trod_int he h1
     have e4:(xs.map (·.1))[i]? =(ns.map fun n=>(DataW.lit (.int k (Int.ofNat n)):DataW H))[i]? :=by rw[e3]
     rw[List.getElem?_map,List.getElem?_map,List.getElem?_eq_getElem (by omega:i<xs.length),List.getElem?_eq_getElem hi,e2] at e4
     simp only[Option.map_some,Option.some.injEq,DataW.lit.injEq,Lit.int.injEq,true_and] at e4
     have h0:((C.toList.drop i).take 1)[0]? =some (.int k z):=by rw[e1];rfl
     rw[List.getElem?_map,List.getElem?_eq_getElem hi,Option.map_some,←e4]
     simpa using h0
   · rw[List.getElem?_eq_none (by omega),List.getElem?_eq_none (by simp;omega)]
 · cases hv
end Go.Ab
end
section
namespace Go.Ab
variable {E:Env}
noncomputable def yj (E:Env) (call:aE) (fuel:Nat) (fn:Func) (p:Option AV) (s:St):z_:=match eE (jY E call fuel) s.ds p s.h with
 | none=> .fail "unwind" none
 | some (some v,h')=> .panic v h'
 | some (none,h')=>match qb E h' s.ts fn.results.toList with
   | some vs=> .ret (nD vs) h'
   | none=> .fail "results" none
noncomputable def DX (E:Env) (call:aE) (fuel:Nat) (f:FuncId) (args:List AV) (h:ah):z_:=match E.P.funcs[f]? with
 | none=> .fail "no function" none
 | some fn=>match fn.body with
   | none=> .fail ("no body " ++fn.name) none
   | some b=>match vS E call fuel fn b args h .no with
     | .ok .normal s=>yj E call fuel fn none s
     | .ok .ret s=>yj E call fuel fn none s
     | .ok (.panic v) s=>yj E call fuel fn (some v) s
     | .ok (.exit _) _=> .fail "exit" none
     | .fail uu o=> .fail (uu++ " in " ++fn.name) o
theorem rW (hE:jZ E) (fuel:Nat) {call:aE} (ih:iu E call):(∀f args h v h',DX E call fuel f args h= .ret v h'→iN E f args h v h')∧(∀f args h v h',DX E call fuel f args h= .panic v h'→Tj E f args h v h'):=by
 have key:∀(f:FuncId) (args:List AV) (h:ah) (out:z_),DX E call fuel f args h=out→(∀uu q,out≠ .fail uu q)→
  ∃fn c e s p,E.P.funcs[f]? =some fn∧fn.body=some c∧vS E call fuel fn c args h .no= .ok e s∧
   ((p=none∧(e= .normal∨e= .ret))∨∃v,p=some v∧e= .panic v)∧
   ((∃v h',out= .panic v h'∧eE (jY E call fuel) s.ds p s.h=some (some v,h'))∨
    ∃vs h',out= .ret (nD vs) h'∧eE (jY E call fuel) s.ds p s.h=some (none,h')∧qb E h' s.ts fn.results.toList=some vs):=by
  intro f args h out e cR
  unfold DX at e
  split at e
  · exact absurd e.symm (cR _ _)
  rename_i fn hf
  split at e
  · exact absurd e.symm (cR _ _)
  rename_i c hb
  have fin:∀(p:Option AV) (s:St),yj E call fuel fn p s=out→
   ((∃v h',out= .panic v h'∧eE (jY E call fuel) s.ds p s.h=some (some v,h'))∨
    ∃vs h',out= .ret (nD vs) h'∧eE (jY E call fuel) s.ds p s.h=some (none,h')∧qb E h' s.ts fn.results.toList=some vs):=by
   intro p s hm
   unfold yj at hm
   split at hm
   · exact absurd hm.symm (cR _ _)
   · rename_i v h' hu;exact .inl ⟨v,h',hm.symm,hu⟩
   · rename_i h' hu
     split at hm
     · rename_i vs hv;exact .inr ⟨vs,h',hm.symm,hu,hv⟩
     · exact absurd hm.symm (cR _ _)
  split at e
  · rename_i s gi;exact ⟨fn,c,_,s,none,hf,hb,gi,.inl ⟨rfl,.inl rfl⟩,fin none s e⟩
  · rename_i s gi;exact ⟨fn,c,_,s,none,hf,hb,gi,.inl ⟨rfl,.inr rfl⟩,fin none s e⟩
  · rename_i v s gi;exact ⟨fn,c,_,s,some v,hf,hb,gi,.inr ⟨v,rfl,rfl⟩,fin (some v) s e⟩
  · exact absurd e.symm (cR _ _)
  · exact absurd e.symm (cR _ _)
 have run:∀(f:FuncId) (fn:Func) (c:Code) (args:List AV) (h:ah) (e:oA) (s:St) (p p':Option AV) (h':ah),E.P.funcs[f]? =some fn→fn.body=some c→vS E call fuel fn c args h .no= .ok e s→
  ((p=none∧(e= .normal∨e= .ret))∨∃v,p=some v∧e= .panic v)→eE (jY E call fuel) s.ds p s.h=some (p',h')→
  ∀(φ:Ph) (w:World) (vs:List Value),OK E φ h w→LR φ args vs→∀cs,∃φ' w' m' tmps todo,OK E φ' h' w'∧Fr φ h w φ' h' w'∧LR φ' s.ts tmps.toList∧
   ((p'=none∧m'= .returning)∨∃v v',p'=some v∧VR φ' v v'∧m'= .panicking [{v:=v',recovered:=false}])∧
   Steps E.P (lone (Frame.enter E.P f vs.toArray .normal) cs w) (lone {(bare f .normal).atR {tmps,defers:=[]} todo with mode:=m'} cs w'):=by
  intro f fn c args h e s p p' h' hf hb gi hp hu φ w vs ok hl cs
  obtain ⟨φ1,w1,a1,e1,x1,x2,x3,x4,x5,x6⟩:=(wo hE ih hf hb gi ok hl (kind:= .normal) (K:=fun _=>cs) ⟨rfl,fun fr hk=>by simp [tryRecover,show fr.kind= .normal from hk]⟩).is
  have Iv:cur (fun _=>cs) s.rc=cs:=by cases s.rc<;>rfl
  have XP:cur (fun _=>cs) RC.no=cs:=rfl
  rw[Iv] at x6
  rw[XP] at x6
  have hm:∃todo m,((p=none∧m= .returning)∨∃v v',p=some v∧VR φ1 v v'∧m= .panicking [{v:=v',recovered:=false}])∧
   Steps E.P (lone (Frame.enter E.P f vs.toArray .normal) cs w) (lone {(bare f .normal).atR a1 todo with mode:=m} cs w1):=by
   rcases hp with ⟨rfl,rfl | rfl⟩ | ⟨v,rfl,rfl⟩
   · cases x1;exact ⟨[],.returning,.inl ⟨rfl,rfl⟩,Steps.trans x6 (.one (stepR_end rfl))⟩
   · cases x1;obtain ⟨todo,hs⟩:=x6;exact ⟨_,.returning,.inl ⟨rfl,rfl⟩,Steps.trans hs (.one (stepR_ret rfl))⟩
   · cases x1 with
     | panic _ v' hv=>obtain ⟨todo,hs⟩:=x6;exact ⟨todo,_,.inr ⟨v,v',rfl,hv,rfl⟩,hs⟩
  obtain ⟨todo,m,hmp,xY⟩:=hm
  obtain ⟨φ2,w2,m2,FX,f2,uj,Rr⟩:=jO hE ih s.ds hu (fr:={(bare f .normal).atR a1 todo with mode:=m}) (cs:=cs) x3 x2.ds (by
   rcases hmp with ⟨e,em⟩ | ⟨v,v',e,hv,em⟩
   · exact .inl ⟨e,em⟩
   · exact .inr ⟨v,v',e,hv,em⟩)
  exact ⟨φ2,w2,m2,a1.tmps,todo,FX,x4.trans f2,x2.ts.mono f2.ext,uj,Steps.trans xY Rr⟩
 refine ⟨fun f args h v h' e=>?_,fun f args h v h' e=>?_⟩
 · obtain ⟨fn,c,e1,s,p,hf,hb,gi,hp,vZ⟩:=key f args h _ e (by simp)
   rcases vZ with ⟨v1,h1,he,_⟩ | ⟨vs1,h1,he,hu,Rj⟩
   · simp at he
   · simp at he;obtain ⟨rfl,rfl⟩:=he
     intro φ w vs ok hl
     refine ⟨enters hE hf hb _ w,fun cs=>?_⟩
     obtain ⟨φ',w',m',tmps,todo,yd,fr,ht,hm,hs⟩:=run f fn c args h e1 s p none h' hf hb gi hp hu φ w vs ok hl cs
     obtain ⟨v',hv,iH⟩:=wk yd ht Rj
     rcases hm with ⟨_,rfl⟩ | ⟨v,v'',e,_⟩
     · exact ⟨φ',w',v',_,hv,yd,fr,hs,rfl,rfl,rfl,rfl,fn,hf,iH⟩
     · simp at e
 · obtain ⟨fn,c,e1,s,p,hf,hb,gi,hp,vZ⟩:=key f args h _ e (by simp)
   rcases vZ with ⟨v1,h1,he,hu⟩ | ⟨vs1,h1,he,_⟩
   · simp at he;obtain ⟨rfl,rfl⟩:=he
     intro φ w vs ok hl
     refine ⟨enters hE hf hb _ w,fun cs=>?_⟩
     obtain ⟨φ',w',m',tmps,todo,yd,fr,ht,hm,hs⟩:=run f fn c args h e1 s p (some v) h' hf hb gi hp hu φ w vs ok hl cs
     rcases hm with ⟨e,_⟩ | ⟨v2,v',e,hv,rfl⟩
     · simp at e
     · simp at e;subst e
       exact ⟨φ',w',v',_,hv,yd,fr,hs,rfl,rfl,rfl,fn,hf⟩
   · simp at he
namespace Fa
abbrev MJ:=FuncId→List AV→ah→Option (AV×ah)
def Kz (E:Env) (M:MJ):Prop:=∀f args h v h',M f args h=some (v,h')→iN E f args h v h'
noncomputable def MK (nx:Nat) (l:List (Nat×ar)):ah:=List.rec (motive:=fun _=>ah) ⟨HT.nil,nx,fun _=>none⟩ (fun x _ h=>h.put x.1 (some x.2)) l
theorem Jf {nx:Nat}:∀{l:List (Nat×ar)} {i:Nat} {o:ar},(MK nx l).get i=some o→(i,o)∈l
 | [],i,o,e=>by
   have e:(ah.mk HT.nil nx fun _=>none).get i=some o:=e
   by_cases hi:i<262144
   · rw[ah.Ac hi] at e
     have e:(hp i).get HT.nil=some o:=e
     rw[Fz hi,CT,Fy] at e
     simp only[HT.nil,Ta] at e
     cases e
   · rw[ah.uw hi] at e;cases e
 | x::xs,i,o,e=>by
   have e:((MK nx xs).put x.1 (some x.2)).get i=some o:=e
   by_cases h:x.1=i
   · subst h
     rw[ah.eF] at e
     cases e;simp
   · rw[ah.bZ h] at e
     exact List.mem_cons_of_mem _ (Jf e)
structure Ent where
 f:FuncId
 args:List AV
 nx:Nat
 K:List (Nat×ar)
 v:AV
 nx':Nat
 K':List (Nat×ar)
end Fa
end Go.Ab
end
section
namespace Go.Ab
variable {E:Env}
theorem LR.Br {φ φ':Ph} {xs:List AV} {ys zs:List Value} (h:LR φ xs ys) (h':LR φ' xs zs) (ih:∀(i:Nat) (x:AV) (y z:Value),xs[i]? =some x→ys[i]? =some y→zs[i]? =some z→VR φ x z):LR φ xs zs:=by
 refine ⟨h'.1,fun i x z hx hz=>?_⟩
 have hi:i<xs.length:=(List.getElem?_eq_some_iff.1 hx).1
 have:i<ys.length:=by rw[←h.1];exact hi
 exact ih i x ys[i] z hx (by simp [this]) hz
theorem VR.back {φ φ':Ph} (hle:φ.le φ') {x:AV} {y:Value} (h:VR φ x y):∀{z:Value},VR φ' x z→VR φ x z:=by
 induction h with
 | bool b=>intro z h;cases h;exact .bool b
 | int k n=>intro z h;cases h;exact .int k n
 | str s=>
   intro z h
   generalize he:AV.str s.data.toList=q at h
   cases h with
   | str s'=>exact .str s'
   | _=>cases he
 | gf=>intro z h;cases h;exact .gf
 | ptr o h=>intro z h';cases h' with | ptr _ h'=>rw[hle _ _ h] at h';cases h';exact .ptr o h
 | ax=>intro z h;cases h;exact .ax
 | slice o len cap op h=>intro z h';cases h' with | slice _ _ _ _ h'=>rw[hle _ _ h] at h';cases h';exact .slice o len cap op h
 | im a cap=>intro z h;cases h;exact .im _ _
 | eZ=>intro z h;cases h;exact .eZ
 | map h=>intro z h';cases h' with | map h'=>rw[hle _ _ h] at h';cases h';exact .map h
 | func f a b a' b' la lb ha hb iha ihb=>
   intro z h
   obtain ⟨c,d,rfl,hc,hd⟩:=VR.A8 h
   have h1:LR φ a c.toList:=LR.Br (ys:=a'.toList) ⟨by simpa using la,fun i x y p q=>ha i x y p (by simpa using q)⟩ hc fun i x y z p q r=>iha i x y p (by simpa using q) (hc.2 i x z p r)
   have h2:LR φ b d.toList:=LR.Br (ys:=b'.toList) ⟨by simpa using lb,fun i x y p q=>hb i x y p (by simpa using q)⟩ hd fun i x y z p q r=>ihb i x y p (by simpa using q) (hd.2 i x z p r)
   have:=VR.Tc f h1 h2
   simpa using this
 | nilFunc=>intro z h;cases h;exact .nilFunc
 | yield h=>intro z h';cases h' with | yield h'=>rw[hle _ _ h] at h';cases h';exact .yield h
 | iface t v v' h ih=>intro z h';cases h' with | iface _ _ _ h'=>exact .iface t v _ (ih h')
 | nilIface=>intro z h;cases h;exact .nilIface
 | agg cs i_ hl h ih=>
   intro z h'
   obtain ⟨d,rfl,hd⟩:=VR.pj h'
   have h1:LR φ cs d.toList:=LR.Br (ys:=i_.toList) ⟨by simpa using hl,fun i x y p q=>h i x y p (by simpa using q)⟩ hd fun i x y z p q r=>ih i x y p (by simpa using q) (hd.2 i x z p r)
   have:=VR.U2 h1
   simpa using this
 | any v h=>intro z h';cases h' with | any _ h'=>exact .any _ h'
 | tuple cs i_ hl h ih=>
   intro z h'
   obtain ⟨d,rfl,hd⟩:=VR.IX h'
   have h1:LR φ cs d.toList:=LR.Br (ys:=i_.toList) ⟨by simpa using hl,fun i x y p q=>h i x y p (by simpa using q)⟩ hd fun i x y z p q r=>ih i x y p (by simpa using q) (hd.2 i x z p r)
   have:=VR.tuple' h1
   simpa using this
theorem LR.back {φ φ':Ph} (hle:φ.le φ') {xs:List AV} {ys zs:List Value} (h:LR φ xs ys) (h':LR φ' xs zs):LR φ xs zs:=
 LR.Br h h' fun i x y z p q r=>(h.2 i x y p q).back hle (h'.2 i x z p r)
theorem OR.back {φ φ':Ph} (hle:φ.le φ') {o:ar} {l:Loc} {x z:Option Obj} (h:OR E φ o l x) (h':OR E φ' o l z):OR E φ o l z:=by
 cases o with
 | cells cs e ro=>
   obtain ⟨C,e1,lo,hi,_,hc⟩:=h
   obtain ⟨D,e2,QT,Im,hz,hd⟩:=h'
   refine ⟨D,e2,QT,Im,hz,hd.size,fun k x hk=>?_,hd.free,hd.zero⟩
   obtain ⟨y,_,hy⟩:=hc.val k x hk
   obtain ⟨y',h1,hy'⟩:=hd.val k x hk
   exact ⟨y',h1,hy.back hle hy'⟩
 | map es clock=>
   obtain ⟨_,es1,_,hl,hv⟩:=h
   obtain ⟨h0,es2,hz,WW,hv'⟩:=h'
   refine ⟨h0,es2,hz,WW,fun i x y hx hy=>?_⟩
   have hi:i<es.length:=(List.getElem?_eq_some_iff.1 hx).1
   have:i<es1.toList.length:=by rw[←hl];exact hi
   have a:=hv i x _ hx (List.getElem?_eq_getElem this)
   have b:=hv' i x y hx hy
   exact ⟨a.key.back hle b.key,a.val.back hle b.val,b.born⟩
 | zC s pos=>exact h'
 | DH m since seen uo=>
   cases m with
   | none=>exact h'
   | some m=>
     obtain ⟨_,lm,hm,_⟩:=h
     obtain ⟨h0,lm',hm',hz⟩:=h'
     rw[hle _ _ hm] at hm';cases hm'
     exact ⟨h0,lm,hm,hz⟩
 | loop st pd ts ps as bd dn=>
   obtain ⟨_,r,_,hr⟩:=h
   obtain ⟨h0,r',hz,Xp⟩:=h'
   obtain ⟨ld,hd,_⟩:=hr.defers
   obtain ⟨ld',hd',FU⟩:=Xp.defers
   rw[hle _ _ hd] at hd';cases hd'
   exact ⟨h0,r',hz,Xp.state,Xp.pending,hr.tmps.back hle Xp.tmps,Xp.params,Xp.assign,Xp.body,⟨ld,hd,FU⟩,Xp.fn⟩
 | UY=>exact h'
def Has (h h':ah):Prop:=∀i o,h.get i=some o→h'.get i=some o
theorem Has.refl (h:ah):Has h h:=fun _ _ e=>e
theorem Has.trans {a b c:ah} (x:Has a b) (y:Has b c):Has a c:=fun i o e=>y i o (x i o e)
theorem OK.forget {φ φ':Ph} {h h':ah} {w w':World} (ok:OK E φ h w) (hle:φ.le φ') (yd:OK E φ' h' w') (hs:Has h h'):OK E φ h w' where
 ED:=ok.ED
 nx:=ok.nx
 Aa:=ok.Aa
 live i o l a b:=(ok.live i o l a b).back hle (yd.live i o l (hs i o a) (hle _ _ b))
 inj:=ok.inj
theorem Fr.forget {φ φ':Ph} {h h':ah} {w w':World} (f:Fr φ h w φ' h' w'):Fr φ h w φ h w' where
 ext:=Ph.le_refl φ
 old _ _:=rfl
 nx:=Nat.le_refl _
 os:=f.os
 tape:=f.tape
 output:=f.output
 size:=f.size
 EF:=f.EF
 own i o l a b c:= .inr ⟨i,o,l,a,b,c,rfl⟩
def AV.plain:Nat→AV→Bool
 | 0,_=>false
 | n+1,x=>match x with
   | .bool _ | .int .. | .str _ | .gf | .ax | .eZ | .nilFunc | .nilIface=>true
   | .iface _ v=>AV.plain n v
   | .agg cs=>cs.all (AV.plain n)
   | .tuple cs=>cs.all (AV.plain n)
   | _=>false
theorem VR.plain {φ φ':Ph}:∀(n:Nat) {x:AV} (_:AV.plain n x=true) {y:Value},VR φ' x y→VR φ x y
 | 0,_,h,_,_=>by cases h
 | n+1,x,h,y,hv=>by
   have ih:= @VR.plain φ φ' n
   cases hv with
   | bool b=>exact .bool b
   | int k m=>exact .int k m
   | str s=>exact .str s
   | gf=>exact .gf
   | ax=>exact .ax
   | eZ=>exact .eZ
   | nilFunc=>exact .nilFunc
   | nilIface=>exact .nilIface
   | iface t v v' h'=>exact .iface t v v' (ih (by simpa [AV.plain] using h) h')
   | agg cs i_ hl hc=>
     refine .agg cs i_ hl fun i x y a b=>ih ?_ (hc i x y a b)
     simp only[AV.plain,List.all_eq_true] at h
     exact h x (List.mem_of_getElem? a)
   | tuple cs i_ hl hc=>
     refine .tuple cs i_ hl fun i x y a b=>ih ?_ (hc i x y a b)
     simp only[AV.plain,List.all_eq_true] at h
     exact h x (List.mem_of_getElem? a)
   | _=>cases h
theorem iN.closed {f:FuncId} {args:List AV} {h':ah} {v:AV} (r:iN E f args (Fa.MK E.G []) v h') (ha:args.all (AV.plain 20)=true) (hv:AV.plain 20 v=true) (h:ah):iN E f args h v h:=fun φ w vs ok hl=>by
 let φ0:Ph:=fun i=>if i<E.G then φ i else none
 have hle:φ0.le φ:=fun i l e=>by
  simp only[φ0] at e
  split at e
  · exact e
  · cases e
 have Yg:∀{i o},(Fa.MK E.G []).get i=some o→False:=fun e=>by cases Fa.Jf e
 have ok0:OK E φ0 (Fa.MK E.G []) w:=by
  refine ⟨fun i l e=>?_,Nat.le_refl _,fun g hg=>?_,fun i o l e=>(Yg e).elim,fun i j o p l m e=>(Yg e).elim⟩
  · simp only[φ0] at e
    split at e
    · assumption
    · cases e
  · simp only[φ0,hg,if_true];exact ok.Aa g hg
 have I2:LR φ0 args vs:=⟨hl.1,fun i x y a b=>(hl.2 i x y a b).plain 20 (List.all_eq_true.1 ha x (List.mem_of_getElem? a))⟩
 obtain ⟨h1,h2⟩:=r φ0 w vs ok0 I2
 refine ⟨h1,fun cs=>?_⟩
 obtain ⟨φ',w',v',fr,x1,x2,x3,x4⟩:=h2 cs
 have ad5:∀b,b<w.heap.size→w'.heap[b]? =w.heap[b]? :=fun b hb=>x3.EF b hb fun i o l e=>(Yg e).elim
 refine ⟨φ,w',v',fr,x1.plain 20 hv,⟨ok.ED,ok.nx,ok.Aa,fun i o l a b=>?_,ok.inj⟩,⟨Ph.le_refl φ,fun _ _=>rfl,Nat.le_refl _,x3.os,x3.tape,x3.output,x3.size,fun b hb _=>ad5 b hb,fun i o l a b c=> .inr ⟨i,o,l,a,b,c,rfl⟩⟩,x4⟩
 have hr:=ok.live i o l a b
 by_cases hb:l.fO<w.heap.size
 · rw[ad5 _ hb];exact hr
 · rw[Array.getElem?_eq_none (by omega)] at hr
   exact hr.absurd.elim
end Go.Ab
end
