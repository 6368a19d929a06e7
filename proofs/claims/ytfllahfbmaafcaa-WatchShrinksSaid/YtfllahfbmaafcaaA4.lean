import Derived.Test.YtfllahfbmaafcaaA3
import Derived.Test.YtfllahfbmaafcaaA0
set_option linter.unusedVariables false
set_option linter.unusedSimpArgs false
section
namespace Go.Ab
variable {E:Env}
def EG (P:Program) (m:Machine) (b:Frame) (k:List Item) (cs:List Frame):Exit→Act→World→Prop
 | .normal,a,w=>Steps P m (lone (b.atR a k) cs w)
 | .exit id,a,w=>∃todo,exitTo id todo=exitTo id k∧Steps P m (lone (b.atR a (.code (.exit id)::todo)) cs w)
 | .ret,a,w=>∃todo,Steps P m (lone (b.atR a (.code .ret::todo)) cs w)
 | .panic chain,a,w=>∃todo,Steps P m (lone {b.atR a todo with mode:= .panicking chain} cs w)
 | _,_,_=>False
theorem EG.of_steps {P:Program} {m m':Machine} {b:Frame} {k:List Item} {cs:List Frame} {e:Exit} {a:Act} {w:World} (hs:Steps P m m') (h:EG P m' b k cs e a w):EG P m b k cs e a w:=by
 cases e with
 | normal=>exact Steps.trans hs h
 | exit id=>obtain ⟨t,h1,h2⟩:=h;exact ⟨t,h1,Steps.trans hs h2⟩
 | ret=>obtain ⟨t,h2⟩:=h;exact ⟨t,Steps.trans hs h2⟩
 | panic c=>obtain ⟨t,h2⟩:=h;exact ⟨t,Steps.trans hs h2⟩
 | goto l=>exact h.elim
 | outgrown=>exact h.elim
theorem EG.pass {P:Program} {m:Machine} {b:Frame} {x:Item} {k:List Item} {cs:List Frame} {e:Exit} {a:Act} {w:World} (hx:∀id,exitTo id (x::k)=exitTo id k) (hn:e≠ .normal) (h:EG P m b (x::k) cs e a w):EG P m b k cs e a w:=by
 cases e with
 | normal=>exact absurd rfl hn
 | exit id=>obtain ⟨t,h1,h2⟩:=h;exact ⟨t,h1.trans (hx id),h2⟩
 | ret=>exact h
 | panic c=>exact h
 | goto l=>exact h.elim
 | outgrown=>exact h.elim
structure n_ (E:Env) (φ:Ph) (h:au) (w:World) (b:Frame) (K:Bool→List Frame) (k:List Item) (m:Machine) (e:gR) (s':St):Prop where
 is:∃φ' w' a' e',Wg φ' e e'∧SR φ' s'.ts s'.ds a'∧OK E φ' s'.h w'∧Fr φ h w φ' s'.h w'∧lz φ' b K s'.rc∧EG E.P m b k (cur K s'.rc) e' a' w'
theorem n_.of_steps {φ:Ph} {h:au} {w:World} {b:Frame} {K:Bool→List Frame} {k:List Item} {m m':Machine} {e:gR} {s':St} (hs:Steps E.P m m') (x:n_ E φ h w b K k m' e s'):n_ E φ h w b K k m e s':=by
 obtain ⟨φ',w',a',e',h1,h2,h3,h4,h5,h6⟩:=x.is
 exact ⟨φ',w',a',e',h1,h2,h3,h4,h5,.of_steps hs h6⟩
theorem n_.later {φ φ₁:Ph} {h h₁:au} {w w₁:World} {b:Frame} {K:Bool→List Frame} {k:List Item} {m:Machine} {e:gR} {s':St} (f:Fr φ h w φ₁ h₁ w₁) (x:n_ E φ₁ h₁ w₁ b K k m e s'):n_ E φ h w b K k m e s':=by
 obtain ⟨φ',w',a',e',h1,h2,h3,h4,h5,h6⟩:=x.is
 exact ⟨φ',w',a',e',h1,h2,h3,f.trans h4,h5,h6⟩
theorem OK.made {φ:Ph} {h h':au} {w:World} (ok:OK E φ h w) {o:aR} {O:Obj} (hn:h.new o=some h') (ho:OR E (φ.add h.nx ⟨w.heap.size,0,0⟩) o ⟨w.heap.size,0,0⟩ (some O)):
 OK E (φ.add h.nx ⟨w.heap.size,0,0⟩) h' (w.alloc O)∧Fr φ h w (φ.add h.nx ⟨w.heap.size,0,0⟩) h' (w.alloc O)∧φ.le (φ.add h.nx ⟨w.heap.size,0,0⟩):=
 ok.fresh (w':=w.alloc O) hn ⟨w.heap.size,0,0⟩ (by rw[show (w.alloc O).heap=w.heap.push O from rfl];simpa using ho)
  (fun c dD hc=>by rw[show (w.alloc O).heap=w.heap.push O from rfl,Array.getElem?_push,if_neg (by simpa using dD)]) (by simp) (Nat.le_refl _) rfl rfl rfl
theorem OK.Wr {φ:Ph} {h:au} {w:World} (ok:OK E φ h w) {i:Nat} {o o':aR} {l:Loc} (hg:h.get i=some o) (D0:o.rw=true) (hl:φ i=some l) {O:Obj} (ho:OR E φ o' l (some O)):
 OK E φ (h.put i (some o')) (w.putObj l.dq O)∧Fr φ h w φ (h.put i (some o')) (w.putObj l.dq O):=by
 have jE:l.dq<w.heap.size:=by
  rcases Nat.lt_or_ge l.dq w.heap.size with h1 | h1
  · exact h1
  · have:=ok.live i o l hg hl
    rw[Array.getElem?_eq_none h1] at this
    exact this.absurd.elim
 exact ok.change hg D0 hl (by rw[World.putObj_heap_same jE];exact ho) (fun c hc=>World.putObj_heap_other hc) World.putObj_size rfl rfl rfl
theorem OK.shut {φ:Ph} {h:au} {w:World} (ok:OK E φ h w) {i:Nat} {o:aR} {l:Loc} (hg:h.get i=some o) (D0:o.rw=true) (hl:φ i=some l) (O:Obj):
 OK E φ (h.put i none) (w.putObj l.dq O)∧Fr φ h w φ (h.put i none) (w.putObj l.dq O):=by
 have fB:∀j p,(h.put i none).get j=some p→h.get j=some p∧j≠i:=fun j p hj=>by
  by_cases e:i=j
  · subst e;rw[au.bF] at hj;simp at hj
  · rw[au.aY e] at hj;exact ⟨hj,Ne.symm e⟩
 refine ⟨⟨ok.xz,ok.nx,ok.sM,fun j p m hj hm=>?_,fun j k p q m n hj hk=>ok.inj j k p q m n (fB j p hj).1 (fB k q hk).1⟩,
  ⟨Ph.le_refl φ,fun _ _=>rfl,Nat.le_refl _,rfl,rfl,rfl,by simp,fun b _ hn=>World.putObj_heap_other (fun e=>hn i o l hg D0 hl e.symm),fun j p m hj hr hm=> .inr ⟨j,p,m,(fB j p hj).1,hr,hm,rfl⟩⟩⟩
 obtain ⟨mQ,dD⟩:=fB j p hj
 rw[World.putObj_heap_other (fun e=>dD (ok.inj j i p o m l mQ hg hm hl (.inr D0) e))]
 exact ok.live j p m mQ hm
theorem EH {s:St} {dn:Nat} {h1:au} {V2:List nw} (ho:IT s=some (dn,h1,V2)) {φ:Ph} {a:Act} {w:World} {b:Frame} {K:Bool→List Frame} (hs:SR φ s.ts s.ds a) (ok:OK E φ s.h w) (fk:lz φ b K s.rc)
 (ps:Array Tmp) (as_ bd:Code):∃φ1 w1 ld mark,φ.le φ1∧OK E φ1 h1 w1∧Fr φ s.h w φ1 h1 w1∧φ1 dn=some ld∧SR φ1 s.ts V2 {a with defers:=mark++a.defers}∧
  (Instr.enterLoop b.fn a.tmps ps as_ bd b.roundOf).run E.P w= .ok (w1.heap.size,mark) (w1.alloc (.loop {state:= .ready,pending:=none,fn:=b.fn,tmps:=a.tmps,params:=ps,assign:=as_,body:=bd,defers:=ld.dq})):=by
 unfold IT at ho
 split at ho
 · rename_i l hl
   split at ho
   · rename_i st pd ts oA rX R1 R2 hg
     simp at ho;obtain ⟨rfl,rfl,rfl⟩:=ho
     rw[hl] at fk
     obtain ⟨ll,hφ,Nu⟩:=fk
     obtain ⟨_,r,hr,vE⟩:=ok.live _ _ _ hg hφ
     obtain ⟨ld,hd1,Sm⟩:=vE.defers
     refine ⟨φ,w,ld,[],Ph.le_refl φ,ok,Fr.refl _ _ _,hd1,⟨hs.ts,hs.ds⟩,?_⟩
     rw[Nu,run_enterLoop_inner hr,Sm]
   · simp at ho
 · rename_i AE
   split at ho
   · rename_i h1' hn
     simp at ho;obtain ⟨rfl,rfl,rfl⟩:=ho
     obtain ⟨ED,YD,hle⟩:=ok.made (O:= .deferred (some [])) hn ⟨rfl,rfl⟩
     have fW:(φ.add s.h.nx ⟨w.heap.size,0,0⟩) s.h.nx=some ⟨w.heap.size,0,0⟩:=by simp [Ph.add]
     refine ⟨_,_,⟨w.heap.size,0,0⟩,[{target:= .collected w.heap.size,args:= #[]}],hle,ED,YD,fW,⟨hs.ts.mono hle,⟨_,fW,rfl⟩,hs.ds.mono hle⟩,?_⟩
     rw[fk.plain (yH AE),run_enterLoop_outer]
     simp
   · simp at ho
theorem NI {c:Code} {e:gR} (h:D_ (some c)=some e):(∃id,c= .exit id∧e= .exit id)∨(c= .ret∧e= .ret):=by
 cases c<;>simp [D_] at h
 · exact .inl ⟨_,rfl,h.symm⟩
 · exact .inr ⟨rfl,h.symm⟩
theorem CQ {call:aW} (cJ:fZ E call) {f:Operand} {ps:Array Tmp} {as_ bd:Code} {s s':St} {e:gR} (h:jJ E call f ps as_ bd s= .ok e s')
 {φ:Ph} {a:Act} {w:World} {b:Frame} {k:List Item} {K:Bool→List Frame} (hs:SR φ s.ts s.ds a) (ok:OK E φ s.h w) (fk:lz φ b K s.rc) (AG:(E.P.funcs[b.fn]?).isSome=true):
 n_ E φ s.h w b K k (lone (b.atR a (.code (.rangeFunc f ps as_ bd)::k)) (cur K s.rc) w) e s':=by
 unfold jJ at h
 split at h
 · rename_i g first captured hf
   split at h
   · rename_i dn h1 V2 ho
     split at h
     · rename_i h2 hn
       have hfv:=lu ok.gl hs.ts hf
       generalize jt:a.eval f=cv at hfv
       obtain ⟨Sf,gz,rfl,hfs,hcs⟩:=hfv.tM
       obtain ⟨φ1,w1,ld,mark,ZM,ED,YD,hld,pU,sQ⟩:=EH ho hs ok fk ps as_ bd
       obtain ⟨yN,Wm,Sn⟩:=ED.made (O:= .loop {state:= .ready,pending:=none,fn:=b.fn,tmps:=a.tmps,params:=ps,assign:=as_,body:=bd,defers:=ld.dq}) hn
        ⟨rfl,_,rfl,⟨rfl,rfl,hs.ts.mono (Ph.le_trans ZM (fun j m hm=>by
         unfold Ph.add;split
         · rename_i e;subst e;exact absurd (ED.xz _ _ hm) (Nat.lt_irrefl _)
         · exact hm)),rfl,rfl,rfl,⟨ld,by
         unfold Ph.add;split
         · rename_i e;subst e;exact absurd (ED.xz _ _ hld) (Nat.lt_irrefl _)
         · exact hld,rfl⟩,AG⟩⟩
       have hle:=Ph.le_trans ZM Sn
       have fW:(φ1.add h1.nx ⟨w1.heap.size,0,0⟩) h1.nx=some ⟨w1.heap.size,0,0⟩:=by simp [Ph.add]
       generalize hφ2:φ1.add h1.nx ⟨w1.heap.size,0,0⟩=φ2 at yN Wm Sn hle fW
       have hl:LR φ2 (first++[.cr h1.nx]++captured) (Sf.toList++[.func (.yield w1.heap.size) #[] #[]]++gz.toList):=
        ((hfs.mono hle).append (.cons (.yield fW) (.nil φ2))).append (hcs.mono hle)
       have AT:∀w',(resolve a.eval (rangeCall f w1.heap.size) 0).run E.P w'= .ok {target:= .fn (.func g) gz,args:=Sf++ #[.func (.yield w1.heap.size) #[] #[]]} w':=fun w'=>by
        have NJ:a.eval (.const (.func (.yield w1.heap.size) #[] #[]))= .func (.yield w1.heap.size) #[] #[]:=rfl
        simp [resolve,Deferred.ofValue,jt,NJ]
       have start:∀n st,mc E φ2 (w1.alloc (.loop {state:= .ready,pending:=none,fn:=b.fn,tmps:=a.tmps,params:=ps,assign:=as_,body:=bd,defers:=ld.dq})) (.fn g) (Sf.toList++[.func (.yield w1.heap.size) #[] #[]]++gz.toList) n st→
        step E.P (lone (b.atR a (.code (.rangeFunc f ps as_ bd)::k)) (cur K s.rc) w)= .next (lone st (b.atR {a with defers:=mark++a.defers} (.inRangeFunc w1.heap.size::k)::cur K s.rc)
         (w1.alloc (.loop {state:= .ready,pending:=none,fn:=b.fn,tmps:=a.tmps,params:=ps,assign:=as_,body:=bd,defers:=ld.dq}))):=fun n st hp=>by
        cases hp with
        | fn _ _ hr=>
          have hinv:(invoke (Target.fn (.func g) gz) (Sf++ #[.func (.yield w1.heap.size) #[] #[]])).run E.P (w1.alloc (.loop {state:= .ready,pending:=none,fn:=b.fn,tmps:=a.tmps,params:=ps,assign:=as_,body:=bd,defers:=ld.dq}))=
           .ok (.enter g (Sf.toList++[Value.func (.yield w1.heap.size) #[] #[]]++gz.toList).toArray) (w1.alloc (.loop {state:= .ready,pending:=none,fn:=b.fn,tmps:=a.tmps,params:=ps,assign:=as_,body:=bd,defers:=ld.dq})):=by
           have e:(Sf.toList++[Value.func (.yield w1.heap.size) #[] #[]]++gz.toList).toArray=Sf++ #[Value.func (.yield w1.heap.size) #[] #[]]++gz:=by
            apply Array.toList_inj.1;simp
           rw[e] at hr ⊢
           simpa [invoke] using hr
          exact stepR_rangeFunc sQ (AT _) hinv
       split at h
       ·
        rename_i v h3 hc
        obtain ⟨n,st,hp,eR⟩:=cJ.ret _ _ _ _ _ hc φ2 _ _ yN trivial hl
        obtain ⟨φ3,w3,v',_,ok3,RN,gQ⟩:=eR (b.atR {a with defers:=mark++a.defers} (.inRangeFunc w1.heap.size::k)) (cur K s.rc)
        rw[finish_atR_inRangeFunc] at gQ
        split at h
        · simp at h
        · rename_i st' fS iN oA rX R1 R2 AE hg
          split at h
          · rename_i e1 hj
            simp at h;obtain ⟨rfl,rfl⟩:=h
            have MT:=RN.ext _ _ fW
            obtain ⟨_,r,hr,vE⟩:=ok3.live _ _ _ hg MT
            have ZN:r.state≠ .busy:=by rw[vE.state];intro e;subst e;exact AE rfl
            obtain ⟨ZO,fr4⟩:=ok3.Wr (o':= .loop .exhausted fS iN oA rX R1 R2) hg rfl MT (O:= .loop {r with state:= .exhausted}) ⟨rfl,_,rfl,⟨rfl,vE.pending,vE.tmps,vE.params,vE.assign,vE.body,vE.defers,vE.fn⟩⟩
            obtain ⟨W4,hW4⟩:∃W4,W4=w3.putObj w1.heap.size (.loop {r with state:= .exhausted}):=⟨_,rfl⟩
            have ZO:OK E φ3 (h3.put h1.nx (some (.loop .exhausted fS iN oA rX R1 R2))) W4:=by rw[hW4];exact ZO
            have fr4:Fr φ3 h3 w3 φ3 (h3.put h1.nx (some (.loop .exhausted fS iN oA rX R1 R2))) W4:=by rw[hW4];exact fr4
            have ZP:=stepR_endRangeFunc (P:=E.P) (b:=b) (a:={a with defers:=mark++a.defers}) (k:=k) (cs:=cur K s.rc) (run_endLoop hr ZN)
            rw[←hW4] at ZP
            have lU:=((YD.trans Wm).trans RN).trans fr4
            have gZ:=Steps.trans (.head (start n st hp) gQ) (.one ZP)
            rw[vE.pending] at gZ
            have Ws:=Ph.le_trans Sn RN.ext
            have NK:=Ph.le_trans hle RN.ext
            cases fS with
            | none=>
              simp [D_] at hj;subst hj
              exact ⟨φ3,_,_,_,.normal,pU.mono Ws,ZO,lU,fk.mono NK,gZ⟩
            | some c=>
              rcases NI hj with ⟨id,rfl,rfl⟩ | ⟨rfl,rfl⟩
              · exact ⟨φ3,_,_,_,.exit id,pU.mono Ws,ZO,lU,fk.mono NK,k,rfl,gZ⟩
              · exact ⟨φ3,_,_,_,.ret,pU.mono Ws,ZO,lU,fk.mono NK,k,gZ⟩
          · simp at h
        · simp at h
       ·
        rename_i v h3 hc
        simp at h;obtain ⟨rfl,rfl⟩:=h
        obtain ⟨n,st,hp,eR⟩:=cJ.panic _ _ _ _ _ hc φ2 _ _ yN trivial hl
        obtain ⟨φ3,w3,v',hv,ok3,RN,gQ⟩:=eR (b.atR {a with defers:=mark++a.defers} (.inRangeFunc w1.heap.size::k)) (cur K s.rc)
        rw[Frame.raise_atR] at gQ
        exact ⟨φ3,w3,_,_,.panic v v' hv,pU.mono (Ph.le_trans Sn RN.ext),ok3,(YD.trans Wm).trans RN,fk.mono (Ph.le_trans hle RN.ext),_,.head (start n st hp) gQ⟩
       · simp at h
     · simp at h
   · simp at h
 · simp at h
end Go.Ab
end
section
namespace Go.Ab
variable {E:Env}
theorem sZ (hE:iZ E) {call:aW} (cJ:fZ E call) {ops:Array Oper}:∀{l:List Oper} {is:List Nat} (_:is.length=l.length) (_:∀(j i:Nat),is[j]? =some i→l[j]? =ops[i]?) {s s':St} {e:gR} (_:iL E call ops l s= .ok e s')
 {φ:Ph} {a:Act} {w:World} {b:Frame} {k:List Item} {K:Bool→List Frame} (_:SR φ s.ts s.ds a) (_:OK E φ s.h w) (_:lz φ b K s.rc),
 n_ E φ s.h w b K k (lone (b.atR a (.inRegion ops is::k)) (cur K s.rc) w) e s'
 | [],is,hl,hi,s,s',e,h,φ,a,w,b,k,K,hs,ok,fk=>by
   cases is with
   | cons _ _=>simp at hl
   | nil=>
     simp [iL] at h;obtain ⟨rfl,rfl⟩:=h
     exact ⟨φ,w,a,_,.normal,hs,ok,Fr.refl _ _ _,fk,.one stepR_region_end⟩
 | o::l,is,hl,hi,s,s',e,h,φ,a,w,b,k,K,hs,ok,fk=>by
   cases is with
   | nil=>simp at hl
   | cons i is=>
     have ho:ops[i]? =some o:=by have:=hi 0 i (by simp);simpa using this.symm
     have RL:is.length=l.length:=by simpa using hl
     have Cq:∀(j i':Nat),is[j]? =some i'→l[j]? =ops[i']? :=fun j i' hj=>by have:=hi (j+1) i' (by simpa using hj);simpa using this
     simp only[iL] at h
     have RM:=sS (ops:=ops) hs.ts o
     split at h
     · rename_i hw
       rw[←RM] at hw
       split at h
       · rename_i s1 nU
         obtain ⟨φ1,w1,a1,e1,x1,x2,x3,x4,x5,x6⟩:=(Bn hE cJ ho nU hs ok fk hw (rest:=is) (k:=k)).is
         cases x1
         exact ((sZ hE cJ RL Cq h x2 x3 x5).of_steps x6).later x4
       · rename_i dD
         obtain ⟨φ1,w1,a1,e1,x1,x2,x3,x4,x5,x6⟩:=(Bn hE cJ ho h hs ok fk hw (rest:=is) (k:=k)).is
         cases x1 with
         | normal=>exact (dD _ h).elim
         | exit=>exact x6.elim
         | ret=>exact x6.elim
         | panic v v' hv=>exact ⟨φ1,w1,a1,_,.panic v v' hv,x2,x3,x4,x5,x6⟩
     · rename_i hw
       have oJ:SR φ (c_ s.ts o.dst AV.undef) s.ds (a.put o.dst undef):=hs.put o.dst (VR.undef φ)
       refine (sZ hE cJ RL Cq h oJ ok fk).of_steps (.one ?_)
       have:=stepR_op_skip (P:=E.P) (b:=b) (a:=a) (k:=k) (cs:=cur K s.rc) (w:=w) (ops:=ops) (i:=i) (rest:=is) (by rw[ho];simp;rw[RM];simpa using hw)
       rw[this,ho];rfl
set_option maxHeartbeats 1000000 in
theorem s6 (hE:iZ E) {call:aW} (cJ:fZ E call):∀(n:Nat) (c:Code) {s s':St} {e:gR} (_:exec E call n c s= .ok e s')
 {φ:Ph} {a:Act} {w:World} {b:Frame} {k:List Item} {K:Bool→List Frame} (_:SR φ s.ts s.ds a) (_:OK E φ s.h w) (_:lz φ b K s.rc) (_:(E.P.funcs[b.fn]?).isSome=true),
 n_ E φ s.h w b K k (lone (b.atR a (.code c::k)) (cur K s.rc) w) e s'∧∀c',c= .loop c'→n_ E φ s.h w b K k (lone (b.atR a (.code c':: .inLoop c'::k)) (cur K s.rc) w) e s':=by
 intro n
 induction n with
 | zero=>intro c s s' e h;simp [exec] at h
 | succ n ih2=>
   have ih:∀(c:Code) {s s':St} {e:gR} (_:exec E call n c s= .ok e s')
    {φ:Ph} {a:Act} {w:World} {b:Frame} {k:List Item} {K:Bool→List Frame} (_:SR φ s.ts s.ds a) (_:OK E φ s.h w) (_:lz φ b K s.rc) (_:(E.P.funcs[b.fn]?).isSome=true),
    n_ E φ s.h w b K k (lone (b.atR a (.code c::k)) (cur K s.rc) w) e s':=fun c _ _ _ h _ _ _ _ _ _ hs ok fk AG=>(ih2 c h hs ok fk AG).1
   intro c s s' e h φ a w b k K hs ok fk AG
   have U1:∀c',c= .loop c'→n_ E φ s.h w b K k (lone (b.atR a (.code c':: .inLoop c'::k)) (cur K s.rc) w) e s':=by
    rintro c rfl
    simp only[exec] at h
    split at h
    · rename_i s1 h1
      obtain ⟨φ1,w1,a1,e1,x1,x2,x3,x4,x5,x6⟩:=(ih c h1 hs ok fk AG (k:= .inLoop c::k)).is
      cases x1
      exact (((ih2 (.loop c) h x2 x3 x5 AG).2 c rfl).of_steps (Steps.trans x6 (.one stepR_inLoop))).later x4
    · rename_i dD
      obtain ⟨φ1,w1,a1,e1,x1,x2,x3,x4,x5,x6⟩:=(ih c h hs ok fk AG (k:= .inLoop c::k)).is
      refine ⟨φ1,w1,a1,e1,x1,x2,x3,x4,x5,.pass (x:= .inLoop c) (fun _=>rfl) ?_ x6⟩
      cases x1 with
      | normal=>exact (dD _ h).elim
      | exit=>simp
      | ret=>simp
      | panic=>simp
   refine ⟨?_,U1⟩
   cases c with
   | skip=>simp [exec] at h;obtain ⟨rfl,rfl⟩:=h;exact ⟨φ,w,a,_,.normal,hs,ok,Fr.refl _ _ _,fk,.one stepR_skip⟩
   | label l=>simp [exec] at h;obtain ⟨rfl,rfl⟩:=h;exact ⟨φ,w,a,_,.normal,hs,ok,Fr.refl _ _ _,fk,.one stepR_label⟩
   | ret=>simp [exec] at h;obtain ⟨rfl,rfl⟩:=h;exact ⟨φ,w,a,_,.ret,hs,ok,Fr.refl _ _ _,fk,k,Steps.refl _ _⟩
   | exit id=>simp [exec] at h;obtain ⟨rfl,rfl⟩:=h;exact ⟨φ,w,a,_,.exit id,hs,ok,Fr.refl _ _ _,fk,k,rfl,Steps.refl _ _⟩
   | seq x y=>
     simp only[exec] at h
     split at h
     · rename_i s1 h1
       obtain ⟨φ1,w1,a1,e1,x1,x2,x3,x4,x5,x6⟩:=(ih x h1 hs ok fk AG (k:= .code y::k)).is
       cases x1
       exact ((ih y h x2 x3 x5 AG).of_steps (.head stepR_seq x6)).later x4
     · rename_i dD
       obtain ⟨φ1,w1,a1,e1,x1,x2,x3,x4,x5,x6⟩:=(ih x h hs ok fk AG (k:= .code y::k)).is
       refine ⟨φ1,w1,a1,e1,x1,x2,x3,x4,x5,.of_steps (.one stepR_seq) (.pass (x:= .code y) (fun _=>rfl) ?_ x6)⟩
       cases x1 with
       | normal=>exact (dD _ h).elim
       | exit=>simp
       | ret=>simp
       | panic=>simp
   | cond x y z=>
     simp only[exec] at h
     split at h
     · rename_i hx
       have h1:=lu ok.gl hs.ts hx
       generalize jt:a.eval x=cv at h1
       cases h1
       exact (ih y h hs ok fk AG).of_steps (.one (stepR_cond jt))
     · rename_i hx
       have h1:=lu ok.gl hs.ts hx
       generalize jt:a.eval x=cv at h1
       cases h1
       exact (ih z h hs ok fk AG).of_steps (.one (stepR_cond jt))
     · simp at h
   | block id c=>
     simp only[exec] at h
     split at h
     · rename_i MJ s1 h1
       obtain ⟨φ1,w1,a1,e1,x1,x2,x3,x4,x5,x6⟩:=(ih c h1 hs ok fk AG (k:= .inBlock id::k)).is
       cases x1
       split at h
       · rename_i hid
         simp at h;obtain ⟨rfl,rfl⟩:=h
         obtain ⟨todo,ht,gQ⟩:=x6
         exact ⟨φ1,w1,a1,_,.normal,x2,x3,x4,x5,.head stepR_block (Steps.trans gQ (.one (stepR_exit (by rw[ht];simp [exitTo,hid]))))⟩
       · rename_i hid
         simp at h;obtain ⟨rfl,rfl⟩:=h
         obtain ⟨todo,ht,gQ⟩:=x6
         refine ⟨φ1,w1,a1,_,.exit MJ,x2,x3,x4,x5,todo,?_,.head stepR_block gQ⟩
         have:(id==MJ)=false:=by simp;exact fun h=>hid h.symm
         rw[ht];simp [exitTo,this]
     · rename_i dD
       obtain ⟨φ1,w1,a1,e1,x1,x2,x3,x4,x5,x6⟩:=(ih c h hs ok fk AG (k:= .inBlock id::k)).is
       cases x1 with
       | normal=>exact ⟨φ1,w1,a1,_,.normal,x2,x3,x4,x5,.head stepR_block (Steps.trans x6 (.one stepR_inBlock))⟩
       | exit MJ=>exact (dD _ _ h).elim
       | ret=>exact ⟨φ1,w1,a1,_,.ret,x2,x3,x4,x5,.of_steps (e:= .ret) (k:=k) (.one stepR_block) x6⟩
       | panic v v' hv=>exact ⟨φ1,w1,a1,_,.panic v v' hv,x2,x3,x4,x5,.of_steps (e:= .panic _) (k:=k) (.one stepR_block) x6⟩
   | loop c=>exact (U1 c rfl).of_steps (.one stepR_loop)
   | region id ops draw=>
     simp only[exec] at h
     cases draw with
     | false=>
       have nU:=sZ hE cJ (ops:=ops) (l:=ops.toList) (is:=List.range ops.size) (by simp) (fun j i hj=>by
        have:=List.getElem?_eq_some_iff.1 hj
        obtain ⟨h1,h2⟩:=this
        simp at h1 h2;subst h2;simp) h hs ok fk (b:=b) (k:=k)
       exact nU.of_steps (.one stepR_region)
     | true=>
       obtain ⟨h1,h2,⟨rfl,φ',a',w',x1,x2,x3,x4,x5⟩ | ⟨v,rfl,hp⟩⟩:=EF hE hE.mixed cJ h hs ok fk (b:=b) (k:=k) id
       · refine ⟨φ',w',a',_,.normal,⟨x1,by rw[h2,x2];exact hs.ds.mono x4.ext⟩,x3,x4,by rw[h1];exact fk.mono x4.ext,?_⟩
         rw[h1];exact x5
       · obtain ⟨φ',a',w',v',todo,x0,x1,x2,x3,x4,x5⟩:=hp.is
         refine ⟨φ',w',a',_,.panic v v' x0,⟨x1,by rw[h2,x2];exact hs.ds.mono x4.ext⟩,x3,x4,by rw[h1];exact fk.mono x4.ext,todo,?_⟩
         rw[h1];exact x5
   | rangeFunc f ps a1 b1=>
     simp only[exec] at h
     exact CQ cJ h hs ok fk AG
   | scope c=>
     simp only[exec] at h
     have s1:∀{m},Steps E.P (lone (b.atR a (.code c:: .inScope c::k)) (cur K s.rc) w) m→Steps E.P (lone (b.atR a (.code (.scope c)::k)) (cur K s.rc) w) m:=fun q=> .head (step_lone_go (by simp [stepG,stepG.exec,Frame.atR])) q
     obtain ⟨φ1,w1,a1,e1,x1,x2,x3,x4,x5,x6⟩:=(ih c h hs ok fk AG (k:= .inScope c::k)).is
     cases x1 with
     | normal=>exact ⟨φ1,w1,a1,_,.normal,x2,x3,x4,x5,s1 (Steps.trans x6 (.one (step_lone_go (by simp [stepG,stepG.exec,Frame.atR]))))⟩
     | exit MJ=>exact ⟨φ1,w1,a1,_,.exit MJ,x2,x3,x4,x5,.of_steps (e:= .exit MJ) (k:=k) (s1 (Steps.refl _ _)) (.pass (x:= .inScope c) (fun _=>rfl) (by simp) x6)⟩
     | ret=>exact ⟨φ1,w1,a1,_,.ret,x2,x3,x4,x5,.of_steps (e:= .ret) (k:=k) (s1 (Steps.refl _ _)) (.pass (x:= .inScope c) (fun _=>rfl) (by simp) x6)⟩
     | panic v v' hv=>exact ⟨φ1,w1,a1,_,.panic v v' hv,x2,x3,x4,x5,.of_steps (e:= .panic _) (k:=k) (s1 (Steps.refl _ _)) (.pass (x:= .inScope c) (fun _=>rfl) (by simp) x6)⟩
   | goto l=>simp [exec] at h
   | refuse why=>simp [exec] at h
end Go.Ab
end
section
namespace Go.Ab
variable {E:Env}
theorem EI {φ:Ph} {h:au} {w:World} (ok:OK E φ h w) {ts:List AV} {tmps:Array Value} (ht:LR φ ts tmps.toList):∀{l:List ResultVar} {vs:List AV} (_:iy E h ts l=some vs),
 ∃oK,LR φ vs oK∧(l.mapM (fun | .tmp t=>pure (tmps.getD t undef) | .cell a t=>do loadVar t (←asAddr (tmps.getD a undef)):ResultVar→Sem Value)).run E.P w= .ok oK w
 | [],vs,h=>by simp [iy] at h;subst h;exact ⟨[],LR.nil φ,rfl⟩
 | r::rest,vs,h=>by
   have fB:∀t,VR φ (ts.getD t AV.undef) (tmps.getD t undef):=fun t=>by
    have:=ht.getD (VR.undef φ) t
    rw[show tmps.getD t undef=tmps.toList.getD t undef by simp [Array.getD_eq_getD_getElem?,List.getD]]
    exact this
   simp only[iy] at h
   split at h
   · simp at h
   · rename_i v hv
     split at h
     · simp at h
     · rename_i vs0 Eg
       simp at h;subst h
       obtain ⟨oK,hl,hr⟩:=EI ok ht Eg
       cases r with
       | tmp t=>
         simp at hv;subst hv
         refine ⟨tmps.getD t undef::oK,.cons (by simpa using fB t) hl,?_⟩
         simp only[List.mapM_cons,Sem.run_bind,Sem.run_pure,Result.andThen_ok,hr]
       | cell ad t=>
         simp only at hv
         obtain ⟨x',hx,eR⟩:=Bk ok (fB ad) hv
         refine ⟨x'::oK,.cons hx hl,?_⟩
         have hr0:=eR w rfl
         have:(do loadVar t (←asAddr (tmps.getD ad undef)):Sem Value).run E.P w= .ok x' w:=by
          have hv2:=fB ad
          unfold bw at hv
          split at hv
          · rename_i i o heq
            rw[heq] at hv2
            generalize hq:tmps.getD ad undef=q at hv2 hr0
            cases hv2
            simpa [Instr.loadAt,Instr.sureAddr,asAddr] using hr0
          · simp at hv
         simp only[List.mapM_cons]
         rw[Sem.run_bind,this]
         simp only[Sem.run_bind,Sem.run_pure,Result.andThen_ok,hr]
theorem qk {φ:Ph} {h:au} {w:World} (ok:OK E φ h w) {ts:List AV} {tmps:Array Value} (ht:LR φ ts tmps.toList) {fn:Func} {vs:List AV} (hv:iy E h ts fn.results.toList=some vs):
 ∃v',VR φ (eW vs) v'∧(results fn tmps).run E.P w= .ok v' w:=by
 obtain ⟨oK,hl,hr⟩:=EI ok ht hv
 have hm:(fn.results.mapM (fun | .tmp t=>pure (tmps.getD t undef) | .cell a t=>do loadVar t (←asAddr (tmps.getD a undef)):ResultVar→Sem Value)).run E.P w= .ok oK.toArray w:=by
  rw[Array.mapM_eq_mapM_toList]
  show Sem.run E.P (Functor.map List.toArray (_:Sem (List Value))) w=_
  rw[Sem.run_map]
  refine (congrArg (fun r=>Result.andThen r _) hr).trans ?_
  rfl
 refine ⟨if h:oK.toArray.size=1 then oK.toArray[0] else .tuple oK.toArray,?_,?_⟩
 · cases vs with
   | nil=>rw[hl.fi];exact VR.tuple' (LR.nil φ)
   | cons v vs=>
     obtain ⟨y,ys,rfl,hy,rY⟩:=hl.bZ
     cases vs with
     | nil=>rw[rY.fi];simpa [eW] using hy
     | cons v2 vs2=>
       obtain ⟨y2,ys2,rfl,hy2,ac4⟩:=rY.bZ
       have:¬(y::y2::ys2).toArray.size=1:=by simp
       rw[dif_neg this]
       exact VR.tuple' (.cons hy (.cons hy2 ac4))
 · unfold results
   rw[Sem.run_bind]
   refine (congrArg (fun r=>Result.andThen r _) hm).trans ?_
   rfl
def bare (f:FuncId) (kind:CallKind):Frame:={fn:=f,tmps:= #[],todo:=[],defers:=[],mode:= .run,kind:=kind,roundOf:=none}
theorem NL {P:Program} {f:FuncId} {fn:Func} {c:Code} (hf:P.funcs[f]? =some fn) (hb:fn.body=some c) (vs:List Value) (kind:CallKind):
 Frame.enter P f vs.toArray kind=(bare f kind).atR {tmps:=vs.toArray++Array.replicate (fn.ntmps - vs.length) undef,defers:=[]} [.code c]:=by
 simp [Frame.enter,Frame.atR,hf,hb,bare]
theorem ql (hE:iZ E) {call:aW} (cJ:fZ E call) {fuel:Nat} {f:FuncId} {fn:Func} {c:Code} (hf:E.P.funcs[f]? =some fn) (hb:fn.body=some c) {args:List AV} {h:au} {rc:RC} {e:gR} {s':St}
 (eX:kL E call fuel fn c args h rc= .ok e s') {φ:Ph} {w:World} {vs:List Value} (ok:OK E φ h w) (hl:LR φ args vs) {kind:CallKind} {K:Bool→List Frame} (fk:lz φ (bare f kind) K rc):
 n_ E φ h w (bare f kind) K [] (lone (Frame.enter E.P f vs.toArray kind) (cur K rc) w) e s':=by
 rw[NL hf hb]
 refine (s6 hE cJ fuel c (s:={ts:=args++List.replicate (fn.ntmps - args.length) AV.undef,h,ds:=[],rc}) eX (a:={tmps:=vs.toArray++Array.replicate (fn.ntmps - vs.length) undef,defers:=[]}) (b:=bare f kind) (k:=[]) ⟨?_,trivial⟩ ok fk (by show (E.P.funcs[f]?).isSome=true;rw[hf];rfl)).1
 have:=hl.append (LR.replicate (VR.undef φ) (fn.ntmps - args.length))
 rw[hl.1] at this
 simpa [hl.1] using this
theorem enters {E:Env} (hE:iZ E) {f:FuncId} {fn:Func} {c:Code} (hf:E.P.funcs[f]? =some fn) (hb:fn.body=some c) (vs:Array Value) (w:World):(callFunc f vs).run E.P w= .ok (.enter f vs) w:=by
 have hn:=hE.names f fn hf
 have:(fn.name== "runtime.NumGoroutine")=false:=by rw[beq_eq_false_iff_ne];exact hn
 simp only[callFunc,Sem.run_bind,run_program,Result.andThen_ok,hf,this,Bool.false_eq_true,if_false,hb,Option.isNone_some,Sem.run_pure]
noncomputable def fV (E:Env) (call:aW) (fuel:Nat) (g:FuncId) (as_:List AV) (h:au) (rc:RC):Option (au×RC):=match E.P.funcs[g]? with
 | none=>none
 | some fg=>match fg.body with
   | none=>none
   | some bg=>match kL E call fuel fg bg as_ h rc with
     | .ok .normal s'=>if s'.ds.isEmpty&&(iy E s'.h s'.ts fg.results.toList).isSome then some (s'.h,s'.rc) else none
     | .ok .ret s'=>if s'.ds.isEmpty&&(iy E s'.h s'.ts fg.results.toList).isSome then some (s'.h,s'.rc) else none
     | _=>none
theorem qm {φ:Ph} {ds:List Deferred} (h:UR φ [] ds):ds=[]:=by cases ds with | nil=>rfl | cons _ _=>exact h.elim
def oR (c:Bool→Frame):RC→Frame
 | .done=>{c true with mode:=settle (c true).mode}
 | _=>{c false with mode:=settle (c false).mode}
theorem qn (hE:iZ E) {call:aW} (cJ:fZ E call) {fuel:Nat} {g:FuncId} {as_:List AV} {h h':au} {rc Sp:RC} (hd:fV E call fuel g as_ h rc=some (h',Sp)) {φ:Ph} {w:World} {vs:List Value}
 (ok:OK E φ h w) (hl:LR φ as_ vs) {c:Bool→Frame} {cs:List Frame} (fk:lz φ (bare g .deferred) (fun x=>c x::cs) rc):
 ∃φ' w',OK E φ' h' w'∧Fr φ h w φ' h' w'∧lz φ' (bare g .deferred) (fun x=>c x::cs) Sp∧(callFunc g vs.toArray).run E.P w= .ok (.enter g vs.toArray) w∧
  Steps E.P (lone (Frame.enter E.P g vs.toArray .deferred) (cur (fun x=>c x::cs) rc) w)
   (lone (oR c Sp) cs w'):=by
 unfold fV at hd
 split at hd
 · simp at hd
 rename_i fg hf
 split at hd
 · simp at hd
 rename_i bg hb
 have key:∀(s':St) (e:gR),(e= .normal∨e= .ret)→kL E call fuel fg bg as_ h rc= .ok e s'→s'.ds.isEmpty=true→(iy E s'.h s'.ts fg.results.toList).isSome=true→s'.h=h'→s'.rc=Sp→
  ∃φ' w',OK E φ' h' w'∧Fr φ h w φ' h' w'∧lz φ' (bare g .deferred) (fun x=>c x::cs) Sp∧(callFunc g vs.toArray).run E.P w= .ok (.enter g vs.toArray) w∧
  Steps E.P (lone (Frame.enter E.P g vs.toArray .deferred) (cur (fun x=>c x::cs) rc) w)
   (lone (oR c Sp) cs w'):=by
  intro s' e he eX Hk AT hh hr
  subst hh;subst hr
  obtain ⟨φ',w',a',e',x1,x2,x3,x4,x5,x6⟩:=(ql hE cJ hf hb eX ok hl (kind:= .deferred) fk).is
  refine ⟨φ',w',x3,x4,x5,enters hE hf hb _ w,?_⟩
  obtain ⟨oK,ac5⟩:=Option.isSome_iff_exists.1 AT
  obtain ⟨v',_,eR⟩:=qk x3 x2.ts ac5
  have hdn:a'.defers=[]:=qm (by have:=x2.ds;rw[List.isEmpty_iff.1 Hk] at this;exact this)
  have fin:∀todo,step E.P (lone {(bare g .deferred).atR a' todo with mode:= .returning} (cur (fun x=>c x::cs) s'.rc) w')=
   .next (lone (oR c s'.rc) cs w'):=fun todo=>by
   have wy:({(bare g .deferred).atR a' todo with mode:= .returning}:Frame).going E.P w' (.returned v'):=⟨rfl,hdn,fg,hf,eR⟩
   have hk:({(bare g .deferred).atR a' todo with mode:= .returning}:Frame).kind= .deferred:=rfl
   cases afD:s'.rc with
   | no=>exact step_going_returned (c:=c false) (cs:=cs) hk wy
   | fS v=>exact step_going_returned (c:=c false) (cs:=cs) hk wy
   | done=>exact step_going_returned (c:=c true) (cs:=cs) hk wy
   | pT l=>exact step_going_returned (c:=c false) (cs:=cs) hk wy
  rcases he with rfl | rfl
  · cases x1
    exact Steps.trans x6 (.head (stepR_end rfl) (.one (fin [])))
  · cases x1
    obtain ⟨todo,hs⟩:=x6
    exact Steps.trans hs (.head (stepR_ret rfl) (.one (fin _)))
 split at hd
 · rename_i s' eX
   split at hd
   · rename_i hc
     simp at hd;obtain ⟨rfl,rfl⟩:=hd
     simp only[Bool.and_eq_true] at hc
     exact key s' .normal (.inl rfl) eX hc.1 hc.2 rfl rfl
   · simp at hd
 · rename_i s' eX
   split at hd
   · rename_i hc
     simp at hd;obtain ⟨rfl,rfl⟩:=hd
     simp only[Bool.and_eq_true] at hc
     exact key s' .ret (.inr rfl) eX hc.1 hc.2 rfl rfl
   · simp at hd
 · simp at hd
theorem iB (hE:iZ E) {call:aW} (cJ:fZ E call) {fuel:Nat}:∀(ds:List nw) {p p':Option AV} {h h':au} (_:cn (fV E call fuel) ds p h=some (p',h')) {φ:Ph} {w:World} {fr:Frame} {cs:List Frame}
 (_:OK E φ h w) (_:UR φ ds fr.defers) (_:(p=none∧fr.mode= .returning)∨∃v v',p=some v∧VR φ v v'∧fr.mode= .panicking [{v:=v',recovered:=false}]),
 ∃φ' w' m',OK E φ' h' w'∧Fr φ h w φ' h' w'∧((p'=none∧m'= .returning)∨∃v v',p'=some v∧VR φ' v v'∧m'= .panicking [{v:=v',recovered:=false}])∧
  Steps E.P (lone fr cs w) (lone {fr with defers:=[],mode:=m'} cs w')
 | [],p,p',h,h',hu,φ,w,fr,cs,ok,Hk,hp=>by
   simp [cn] at hu;obtain ⟨rfl,rfl⟩:=hu
   have:=qm Hk
   refine ⟨φ,w,fr.mode,ok,Fr.refl _ _ _,?_,?_⟩
   · exact hp
   · rw[←this];exact Steps.refl _ _
 | .MI r::ds,p,p',h,h',hu,φ,w,fr,cs,ok,Hk,hp=>by
   cases Wt:fr.defers with
   | nil=>rw[Wt] at Hk;exact Hk.elim
   | cons d' vz=>
   rw[Wt] at Hk
   obtain ⟨⟨l,hl,Sq⟩,NM⟩:=Hk
   have NO:fr.mode≠ .run:=by
    rcases hp with ⟨_,hm⟩ | ⟨v,v',_,_,hm⟩<;>rw[hm]<;>simp
   simp only[cn] at hu
   split at hu
   · rename_i hg
     obtain ⟨_,hb⟩:=ok.live _ _ _ hg hl
     obtain ⟨ED,f1⟩:=ok.shut hg rfl hl (.deferred none)
     have st1:=step_collected (P:=E.P) (cs:=cs) NO Wt Sq (run_takeDeferred hb)
     obtain ⟨φ2,w2,m2,yN,f2,NP,Hl⟩:=iB hE cJ ds hu (fr:={fr with defers:=[]++vz}) (cs:=cs) ED (by simpa using NM) hp
     exact ⟨φ2,w2,m2,yN,f1.trans f2,NP,.head st1 Hl⟩
   · simp at hu
 | .call df aeE::ds,p,p',h,h',hu,φ,w,fr,cs,ok,Hk,hp=>by
   cases Wt:fr.defers with
   | nil=>rw[Wt] at Hk;exact Hk.elim
   | cons d' vz=>
   rw[Wt] at Hk
   obtain ⟨⟨cap,Sq,yA⟩,NM⟩:=Hk
   have NO:fr.mode≠ .run:=by
    rcases hp with ⟨_,hm⟩ | ⟨v,v',_,_,hm⟩<;>rw[hm]<;>simp
   have hinv:∀(MU:(callFunc df (d'.args++cap).toList.toArray).run E.P w= .ok (.enter df (d'.args++cap).toList.toArray) w),(invoke d'.target d'.args).run E.P w= .ok (.enter df (d'.args++cap).toList.toArray) w:=fun MU=>by
    have e:(d'.args++cap).toList.toArray=d'.args++cap:=Array.toArray_toList ..
    rw[e] at MU ⊢
    rw[Sq];exact MU
   have st1:∀(MU:(callFunc df (d'.args++cap).toList.toArray).run E.P w= .ok (.enter df (d'.args++cap).toList.toArray) w),step E.P (lone fr cs w)= .next (lone (Frame.enter E.P df (d'.args++cap).toList.toArray .deferred) ({fr with defers:=vz}::cs) w):=fun MU=>step_defer NO Wt Sq (hinv MU)
   cases p with
   | none=>
     simp only[cn] at hu
     split at hu
     · rename_i h1 rc1 ZQ
       have hm:fr.mode= .returning:=by
        rcases hp with ⟨_,hm⟩ | ⟨v,v',e,_,_⟩
        · exact hm
        · simp at e
       obtain ⟨φ1,w1,ED,f1,_,MU,gQ⟩:=qn hE cJ ZQ ok yA (c:=fun _=>{fr with defers:=vz}) (cs:=cs) ⟨rfl,fun GH hk=>by simp [tryRecover,show GH.kind= .deferred from hk,hm]⟩
       have n9:oR (fun _=>{fr with defers:=vz}) rc1={fr with defers:=vz}:=by
        cases rc1<;>simp [oR,hm,settle]
       rw[n9] at gQ
       obtain ⟨φ2,w2,m2,yN,f2,NP,Hl⟩:=iB hE cJ ds hu (fr:={fr with defers:=vz}) (cs:=cs) ED (NM.mono f1.ext) (.inl ⟨rfl,hm⟩)
       exact ⟨φ2,w2,m2,yN,f1.trans f2,NP,.head (st1 MU) (Steps.trans gQ Hl)⟩
     · simp at hu
   | some v=>
     obtain ⟨v',hv,hm⟩:∃v',VR φ v v'∧fr.mode= .panicking [{v:=v',recovered:=false}]:=by
      rcases hp with ⟨e,_⟩ | ⟨v1,v',e,hv,hm⟩
      · simp at e
      · simp at e;subst e;exact ⟨v',hv,hm⟩
     have fk:lz φ (bare df .deferred) (fun x=>(if x then {fr with defers:=vz,mode:= .panicking [{v:=v',recovered:=true}]} else {fr with defers:=vz})::cs) (.fS v):=
      ⟨rfl,⟨v',hv,fun GH hk=>by simp [tryRecover,show GH.kind= .deferred from hk,hm]⟩,fun GH hk=>by simp [tryRecover,show GH.kind= .deferred from hk]⟩
     simp only[cn] at hu
     split at hu
     · rename_i h1 v1 ZQ
       obtain ⟨φ1,w1,ED,f1,_,MU,gQ⟩:=qn hE cJ ZQ ok yA (c:=fun x=>if x then {fr with defers:=vz,mode:= .panicking [{v:=v',recovered:=true}]} else {fr with defers:=vz}) (cs:=cs) fk
       have n9:oR (fun x=>if x then {fr with defers:=vz,mode:= .panicking [{v:=v',recovered:=true}]} else {fr with defers:=vz}) (.fS v1)={fr with defers:=vz}:=by simp [oR,hm,settle]
       rw[n9] at gQ
       simp only[Bool.false_eq_true,if_false,cur] at gQ
       obtain ⟨φ2,w2,m2,yN,f2,NP,Hl⟩:=iB hE cJ ds hu (fr:={fr with defers:=vz}) (cs:=cs) ED (NM.mono f1.ext) (.inr ⟨v,v',rfl,hv.mono f1.ext,hm⟩)
       exact ⟨φ2,w2,m2,yN,f1.trans f2,NP,.head (st1 MU) (Steps.trans gQ Hl)⟩
     · rename_i h1 ZQ
       obtain ⟨φ1,w1,ED,f1,_,MU,gQ⟩:=qn hE cJ ZQ ok yA (c:=fun x=>if x then {fr with defers:=vz,mode:= .panicking [{v:=v',recovered:=true}]} else {fr with defers:=vz}) (cs:=cs) fk
       have n9:oR (fun x=>if x then {fr with defers:=vz,mode:= .panicking [{v:=v',recovered:=true}]} else {fr with defers:=vz}) .done={fr with defers:=vz,mode:= .returning}:=by simp [oR,settle]
       rw[n9] at gQ
       simp only[Bool.false_eq_true,if_false,cur] at gQ
       obtain ⟨φ2,w2,m2,yN,f2,NP,Hl⟩:=iB hE cJ ds hu (fr:={fr with defers:=vz,mode:= .returning}) (cs:=cs) ED (NM.mono f1.ext) (.inl ⟨rfl,rfl⟩)
       exact ⟨φ2,w2,m2,yN,f1.trans f2,NP,.head (st1 MU) (Steps.trans gQ Hl)⟩
     · simp at hu
theorem EJ (hE:iZ E) (fuel d:Nat) (ih:fZ E (ft E d fuel)):(∀f args h v h',ft E (d+1) fuel (.fn f) args h= .ret v h'→ju E f args h v h')∧(∀f args h v h',ft E (d+1) fuel (.fn f) args h= .panic v h'→IZ E f args h v h'):=by
 have key:∀(f:FuncId) (args:List AV) (h:au) (out:gY),ft E (d+1) fuel (.fn f) args h=out→(∀why q,out≠ .fail why q)→
  ∃fn c e s p,E.P.funcs[f]? =some fn∧fn.body=some c∧kL E (ft E d fuel) fuel fn c args h .no= .ok e s∧
   ((p=none∧(e= .normal∨e= .ret))∨∃v,p=some v∧e= .panic v)∧
   ((∃v h',out= .panic v h'∧cn (fV E (ft E d fuel) fuel) s.ds p s.h=some (some v,h'))∨
    ∃vs h',out= .ret (eW vs) h'∧cn (fV E (ft E d fuel) fuel) s.ds p s.h=some (none,h')∧iy E h' s.ts fn.results.toList=some vs):=by
  intro f args h out e dD
  simp only[ft] at e
  split at e
  · exact absurd e.symm (dD _ _)
  rename_i fn hf
  split at e
  · exact absurd e.symm (dD _ _)
  rename_i c hb
  have fin:∀(p:Option AV) (s:St),(match cn (fV E (ft E d fuel) fuel) s.ds p s.h with
   | none=>gY.fail "unwind" none
   | some (some v,h')=> .panic v h'
   | some (none,h')=>match iy E h' s.ts fn.results.toList with
     | some vs=> .ret (eW vs) h'
     | none=> .fail "results" none)=out→
   ((∃v h',out= .panic v h'∧cn (fV E (ft E d fuel) fuel) s.ds p s.h=some (some v,h'))∨
    ∃vs h',out= .ret (eW vs) h'∧cn (fV E (ft E d fuel) fuel) s.ds p s.h=some (none,h')∧iy E h' s.ts fn.results.toList=some vs):=by
   intro p s hm
   split at hm
   · exact absurd hm.symm (dD _ _)
   · rename_i v h' hu;exact .inl ⟨v,h',hm.symm,hu⟩
   · rename_i h' hu
     split at hm
     · rename_i vs hv;exact .inr ⟨vs,h',hm.symm,hu,hv⟩
     · exact absurd hm.symm (dD _ _)
  split at e
  · rename_i s eX;exact ⟨fn,c,_,s,none,hf,hb,eX,.inl ⟨rfl,.inl rfl⟩,fin none s e⟩
  · rename_i s eX;exact ⟨fn,c,_,s,none,hf,hb,eX,.inl ⟨rfl,.inr rfl⟩,fin none s e⟩
  · rename_i v s eX;exact ⟨fn,c,_,s,some v,hf,hb,eX,.inr ⟨v,rfl,rfl⟩,fin (some v) s e⟩
  · exact absurd e.symm (dD _ _)
  · exact absurd e.symm (dD _ _)
 have run:∀(f:FuncId) (fn:Func) (c:Code) (args:List AV) (h:au) (e:gR) (s:St) (p p':Option AV) (h':au),E.P.funcs[f]? =some fn→fn.body=some c→kL E (ft E d fuel) fuel fn c args h .no= .ok e s→
  ((p=none∧(e= .normal∨e= .ret))∨∃v,p=some v∧e= .panic v)→cn (fV E (ft E d fuel) fuel) s.ds p s.h=some (p',h')→
  ∀(φ:Ph) (w:World) (vs:List Value),OK E φ h w→LR φ args vs→∀cs,∃φ' w' m' tmps todo,OK E φ' h' w'∧Fr φ h w φ' h' w'∧LR φ' s.ts tmps.toList∧
   ((p'=none∧m'= .returning)∨∃v v',p'=some v∧VR φ' v v'∧m'= .panicking [{v:=v',recovered:=false}])∧
   Steps E.P (lone (Frame.enter E.P f vs.toArray .normal) cs w) (lone {(bare f .normal).atR {tmps,defers:=[]} todo with mode:=m'} cs w'):=by
  intro f fn c args h e s p p' h' hf hb eX hp hu φ w vs ok hl cs
  obtain ⟨φ1,w1,a1,e1,x1,x2,x3,x4,x5,x6⟩:=(ql hE ih hf hb eX ok hl (kind:= .normal) (K:=fun _=>cs) ⟨rfl,fun fr hk=>by simp [tryRecover,show fr.kind= .normal from hk]⟩).is
  have EK:cur (fun _=>cs) s.rc=cs:=by cases s.rc<;>rfl
  have NQ:cur (fun _=>cs) RC.no=cs:=rfl
  rw[EK] at x6
  rw[NQ] at x6
  have hm:∃todo m,((p=none∧m= .returning)∨∃v v',p=some v∧VR φ1 v v'∧m= .panicking [{v:=v',recovered:=false}])∧
   Steps E.P (lone (Frame.enter E.P f vs.toArray .normal) cs w) (lone {(bare f .normal).atR a1 todo with mode:=m} cs w1):=by
   rcases hp with ⟨rfl,rfl | rfl⟩ | ⟨v,rfl,rfl⟩
   · cases x1;exact ⟨[],.returning,.inl ⟨rfl,rfl⟩,Steps.trans x6 (.one (stepR_end rfl))⟩
   · cases x1;obtain ⟨todo,hs⟩:=x6;exact ⟨_,.returning,.inl ⟨rfl,rfl⟩,Steps.trans hs (.one (stepR_ret rfl))⟩
   · cases x1 with
     | panic _ v' hv=>obtain ⟨todo,hs⟩:=x6;exact ⟨todo,_,.inr ⟨v,v',rfl,hv,rfl⟩,hs⟩
  obtain ⟨todo,m,hmp,pU⟩:=hm
  obtain ⟨φ2,w2,m2,yN,f2,NP,hs2⟩:=iB hE ih s.ds hu (fr:={(bare f .normal).atR a1 todo with mode:=m}) (cs:=cs) x3 x2.ds (by
   rcases hmp with ⟨e,em⟩ | ⟨v,v',e,hv,em⟩
   · exact .inl ⟨e,em⟩
   · exact .inr ⟨v,v',e,hv,em⟩)
  exact ⟨φ2,w2,m2,a1.tmps,todo,yN,x4.trans f2,x2.ts.mono f2.ext,NP,Steps.trans pU hs2⟩
 refine ⟨fun f args h v h' e=>?_,fun f args h v h' e=>?_⟩
 · obtain ⟨fn,c,e1,s,p,hf,hb,eX,hp,nV⟩:=key f args h _ e (by simp)
   rcases nV with ⟨v1,h1,he,_⟩ | ⟨vs1,h1,he,hu,AT⟩
   · simp at he
   · simp at he;obtain ⟨rfl,rfl⟩:=he
     intro φ w vs ok hl
     refine ⟨enters hE hf hb _ w,fun cs=>?_⟩
     obtain ⟨φ',w',m',tmps,todo,pV,fr,ht,hm,hs⟩:=run f fn c args h e1 s p none h' hf hb eX hp hu φ w vs ok hl cs
     obtain ⟨v',hv,eR⟩:=qk pV ht AT
     rcases hm with ⟨_,rfl⟩ | ⟨v,v'',e,_⟩
     · exact ⟨φ',w',v',_,hv,pV,fr,hs,rfl,rfl,rfl,rfl,fn,hf,eR⟩
     · simp at e
 · obtain ⟨fn,c,e1,s,p,hf,hb,eX,hp,nV⟩:=key f args h _ e (by simp)
   rcases nV with ⟨v1,h1,he,hu⟩ | ⟨vs1,h1,he,_⟩
   · simp at he;obtain ⟨rfl,rfl⟩:=he
     intro φ w vs ok hl
     refine ⟨enters hE hf hb _ w,fun cs=>?_⟩
     obtain ⟨φ',w',m',tmps,todo,pV,fr,ht,hm,hs⟩:=run f fn c args h e1 s p (some v) h' hf hb eX hp hu φ w vs ok hl cs
     rcases hm with ⟨e,_⟩ | ⟨v2,v',e,hv,rfl⟩
     · simp at e
     · simp at e;subst e
       exact ⟨φ',w',v',_,hv,pV,fr,hs,rfl,rfl,rfl,fn,hf⟩
   · simp at he
theorem s7 {l:Nat} {jump:Option Code} {s:St} {v:AV} {h':au} (he:xy l jump s= .ret v h') {φ:Ph} {w:World} (ok:OK E φ s.h w) {ll:Loc} (hl:φ l=some ll):
 ∃w',v= .bool jump.isNone∧OK E φ h' w'∧Fr φ s.h w φ h' w'∧(Instr.endRound ll.dq jump).run E.P w= .ok (.bool jump.isNone) w':=by
 unfold xy at he
 split at he
 · rename_i st pd ts ps as_ bd dn hg
   simp only[gY.ret.injEq] at he;obtain ⟨rfl,rfl⟩:=he
   obtain ⟨_,r,hr,vE⟩:=ok.live _ _ _ hg hl
   obtain ⟨ED,f1⟩:=ok.Wr (o':= .loop (if jump.isNone then .ready else .done) jump ts ps as_ bd dn) hg rfl hl (O:= .loop {r with state:=if jump.isNone then .ready else .done,pending:=jump})
    ⟨by have:=ok.live _ _ _ hg hl;exact this.1,_,rfl,⟨rfl,rfl,vE.tmps,vE.params,vE.assign,vE.body,vE.defers,vE.fn⟩⟩
   exact ⟨_,rfl,ED,f1,run_endRound jump hr⟩
 · simp at he
theorem EL {φ:Ph}:∀{ps:List Tmp} {args:List AV} {vs:List Value} (_:LR φ args vs) {ts:List AV} {tmps:Array Value} (_:LR φ ts tmps.toList),
 LR φ ((ps.zip args).foldl (fun ts x=>ts.set x.1 x.2) ts) (((ps.zip vs).foldl (fun (tmps:Array Value) (x:Tmp×Value)=>tmps.setIfInBounds x.1 x.2) tmps).toList)
 | [],_,_,_,_,_,ht=>by simpa using ht
 | p::ps,[],vs,hl,ts,tmps,ht=>by rw[hl.fi];simpa using ht
 | p::ps,x::xs,vs,hl,ts,tmps,ht=>by
   obtain ⟨y,ys,rfl,hy,rY⟩:=hl.bZ
   simp only[List.zip_cons_cons,List.foldl_cons]
   exact EL rY (by simpa using ht.set hy p)
theorem s9 (hE:iZ E) {call:aW} (cJ:fZ E call) {fuel l:Nat} {args:List AV} {h:au} {out:gY} (ho:oG E call fuel l args h=out) (dD:∀why q,out≠ .fail why q)
 {φ:Ph} {w:World} {vs:List Value} (ok:OK E φ h w) {ll:Loc} (hφ:φ l=some ll) (hl:LR φ args vs):
 ∃f tmps assign body,(Instr.yield ll.dq vs.toArray).run E.P w= .ok (.round ll.dq f tmps assign body) w∧∀c cs,
  (∀v h',out= .ret v h'→∃φ' w' v',VR φ' v v'∧OK E φ' h' w'∧Fr φ h w φ' h' w'∧Steps E.P (lone (Frame.round ll.dq f tmps assign body .normal) (c::cs) w) (lone (c.finish v') cs w'))∧
  (∀v h',out= .panic v h'→∃φ' w' v',VR φ' v v'∧OK E φ' h' w'∧Fr φ h w φ' h' w'∧Steps E.P (lone (Frame.round ll.dq f tmps assign body .normal) (c::cs) w) (lone (c.raise [{v:=v',recovered:=false}]) cs w')):=by
 unfold oG at ho
 split at ho
 · rename_i st pd ts ps as_ bd dn hg
   split at ho
   · rename_i hlen
     split at ho
     · rename_i s1 hx1
       split at ho
       · rename_i pd2 RA M8 MK RB RD hg1
         obtain ⟨afE,r,hr,vE⟩:=ok.live _ _ _ hg hφ
         have Kt:vs.toArray.size=r.params.size:=by
          have h1:=congrArg List.length vE.params
          have h2:=hl.1
          simp at h1 ⊢;omega
         refine ⟨r.fn,_,r.assign,r.body,run_yield hr Kt,fun c cs=>?_⟩
         have ZR:LR φ ((ps.zip args).foldl (fun ts x=>ts.set x.1 x.2) ts) ((r.params.zip vs.toArray).foldl (fun tmps (t,a)=>tmps.setIfInBounds t a) r.tmps).toList:=by
          have:=EL (ps:=ps) hl vE.tmps
          rw[←Array.foldl_toList,Array.toList_zip,vE.params]
          exact this
         generalize htm:(r.params.zip vs.toArray).foldl (fun tmps (t,a)=>tmps.setIfInBounds t a) r.tmps=I5 at ZR
         let b:Frame:={fn:=r.fn,tmps:= #[],todo:=[],defers:=[],mode:= .run,kind:= .normal,roundOf:=some ll.dq}
         have hb:b.roundOf=some ll.dq:=rfl
         have hk:b.kind= .normal:=rfl
         have vA:Frame.round ll.dq r.fn I5 r.assign r.body .normal=b.atR {tmps:=I5,defers:=[]} [.code r.assign,.beginRound,.code r.body]:=rfl
         rw[vE.assign,vE.body] at vA ⊢
         rw[vA]
         have EK:∀rc,cur (fun _=>c::cs) rc=c::cs:=fun rc=>by cases rc<;>rfl
         obtain ⟨φ1,w1,a1,e1,x1,x2,x3,x4,x5,x6⟩:=(s6 hE cJ fuel as_ hx1 (a:={tmps:=I5,defers:=[]}) (b:=b) (k:=[.beginRound,.code bd]) (K:=fun _=>c::cs) ⟨ZR,trivial⟩ ok ⟨ll,hφ,rfl⟩ vE.fn).1.is
         cases x1
         rw[EK,EK] at x6
         have hφ1:=x4.ext _ _ hφ
         obtain ⟨ZS,r1,ZB,EM⟩:=x3.live _ _ _ hg1 hφ1
         obtain ⟨yN,f2⟩:=x3.Wr (o':= .loop .busy pd2 RA M8 MK RB RD) hg1 rfl hφ1 (O:= .loop {r1 with state:= .busy})
          ⟨ZS,_,rfl,⟨rfl,EM.pending,EM.tmps,EM.params,EM.assign,EM.body,EM.defers,EM.fn⟩⟩
         have ac6:=stepR_beginRound (P:=E.P) (b:=b) (a:=a1) (k:=[.code bd]) (cs:=c::cs) hb (run_beginRound ZB EM.state)
         have rZ:=Steps.trans x6 (.one ac6)
         have body:∀(e:gR) (s2:St),exec E call fuel bd {s1 with h:=s1.h.put l (some (.loop .busy pd2 RA M8 MK RB RD))}= .ok e s2→
          ∃φ' w' a' e',Wg φ' e e'∧SR φ' s2.ts s2.ds a'∧OK E φ' s2.h w'∧Fr φ h w φ' s2.h w'∧φ' l=some ll∧EG E.P (lone (b.atR {tmps:=I5,defers:=[]} [.code as_,.beginRound,.code bd]) (c::cs) w) b [] (c::cs) e' a' w':=by
          intro e s2 Sr
          obtain ⟨φ3,w3,a3,e3,y1,y2,y3,y4,y5,y6⟩:=(s6 hE cJ fuel bd Sr (a:=a1) (b:=b) (k:=[]) (K:=fun _=>c::cs) x2 yN x5 vE.fn).1.is
          rw[EK,EK] at y6
          exact ⟨φ3,w3,a3,e3,y1,y2,y3,(x4.trans f2).trans y4,y4.ext _ _ hφ1,.of_steps rZ y6⟩
         split at ho
         · rename_i s2 Sr
           obtain ⟨φ3,w3,a3,e3,y1,y2,y3,y4,MT,y6⟩:=body _ _ Sr
           cases y1
           refine ⟨fun v h' e=>?_,fun v h' e=>?_⟩
           · obtain ⟨w4,rfl,z1,z2,z3⟩:=s7 (ho.trans e) y3 MT
             exact ⟨φ3,w4,_,.bool _,z1,y4.trans z2,Steps.trans y6 (.one (stepR_round_end hb hk z3))⟩
           · rw[e] at ho;unfold xy at ho;split at ho<;>simp at ho
         · rename_i s2 Sr
           obtain ⟨φ3,w3,a3,e3,y1,y2,y3,y4,MT,y6⟩:=body _ _ Sr
           cases y1
           refine ⟨fun v h' e=>?_,fun v h' e=>?_⟩
           · obtain ⟨w4,rfl,z1,z2,z3⟩:=s7 (ho.trans e) y3 MT
             obtain ⟨todo,hs⟩:=y6
             exact ⟨φ3,w4,_,.bool _,z1,y4.trans z2,Steps.trans hs (.one (stepR_round_ret hb hk z3))⟩
           · rw[e] at ho;unfold xy at ho;split at ho<;>simp at ho
         · rename_i id s2 Sr
           obtain ⟨φ3,w3,a3,e3,y1,y2,y3,y4,MT,y6⟩:=body _ _ Sr
           cases y1
           refine ⟨fun v h' e=>?_,fun v h' e=>?_⟩
           · obtain ⟨w4,rfl,z1,z2,z3⟩:=s7 (ho.trans e) y3 MT
             obtain ⟨todo,ht,hs⟩:=y6
             exact ⟨φ3,w4,_,.bool _,z1,y4.trans z2,Steps.trans hs (.one (stepR_round_exit hb hk ht z3))⟩
           · rw[e] at ho;unfold xy at ho;split at ho<;>simp at ho
         · rename_i v2 s2 Sr
           obtain ⟨φ3,w3,a3,e3,y1,y2,y3,y4,MT,y6⟩:=body _ _ Sr
           split at ho
           · rename_i Hk
             refine ⟨fun v h' e=>by rw[e] at ho;simp at ho,fun v h' e=>?_⟩
             rw[e] at ho;simp at ho;obtain ⟨rfl,rfl⟩:=ho
             cases y1 with
             | panic _ v' hv=>
               obtain ⟨todo,hs⟩:=y6
               have hdn:a3.defers=[]:=qm (by have:=y2.ds;rw[List.isEmpty_iff.1 Hk] at this;exact this)
               obtain ⟨fn,AG⟩:=Option.isSome_iff_exists.1 vE.fn
               exact ⟨φ3,w3,v',hv,y3,y4,Steps.trans hs (.one (step_leave_panicked ⟨rfl,hdn,fn,AG⟩))⟩
           · exact absurd ho.symm (dD _ _)
         · exact absurd ho.symm (dD _ _)
       · exact absurd ho.symm (dD _ _)
     · exact absurd ho.symm (dD _ _)
     · exact absurd ho.symm (dD _ _)
   · exact absurd ho.symm (dD _ _)
 · exact absurd ho.symm (dD _ _)
theorem wE (hE:iZ E) (fuel:Nat):∀d,fZ E (ft E d fuel)
 | 0=>⟨fun f args h v h' e=>by simp [ft] at e,fun f args h v h' e=>by simp [ft] at e⟩
 | d+1=>by
   have ih:=wE hE fuel d
   obtain ⟨k1,k2⟩:=EJ hE fuel d ih
   refine ⟨fun F args h v h' e=>?_,fun F args h v h' e=>?_⟩
   · cases F with
     | fn f=>exact (k1 f args h v h' e).any
     | sL l=>
       simp only[ft] at e
       intro φ w vs ok hf hl
       obtain ⟨ll,hφ⟩:=hf
       obtain ⟨f,tmps,assign,body,hy,eR⟩:=s9 hE ih e (by simp) ok hφ hl
       exact ⟨_,_,.sL l ll hφ vs f tmps assign body hy,fun c cs=>(eR c cs).1 v h' rfl⟩
   · cases F with
     | fn f=>exact (k2 f args h v h' e).any
     | sL l=>
       simp only[ft] at e
       intro φ w vs ok hf hl
       obtain ⟨ll,hφ⟩:=hf
       obtain ⟨f,tmps,assign,body,hy,eR⟩:=s9 hE ih e (by simp) ok hφ hl
       exact ⟨_,_,.sL l ll hφ vs f tmps assign body hy,fun c cs=>(eR c cs).2 v h' rfl⟩
end Go.Ab
end
section
namespace Go.Ab.Fa
structure Acc (T:Type) where
 f:T→AV
structure ZT (T:Type) where
 f:AV→T→T
structure RF where
 T:Type
 N:Nat
 get:Nat→Acc T
 set:Nat→ZT T
 z:T
 NR:∀i,i<N→(get i).f z=AV.undef
 uc:∀i,i<N→∀v r,(get i).f ((set i).f v r)=v
 rE:∀i j,i<N→j<N→i≠j→∀v r,(get j).f ((set i).f v r)=(get j).f r
def Ss (i:Nat):Acc (P8 (P8 AV)):=s8 (i/8) fun p=>s8 (i%8) fun q=>⟨fun r=>q (p r)⟩
noncomputable def Wu (i:Nat):ZT (P8 (P8 AV)):=e8 (i/8) fun p=>e8 (i%8) fun q=>⟨fun v r=>p (q fun _=>v) r⟩
noncomputable def rf2:RF where
 T:=P8 (P8 AV)
 N:=64
 get:=Ss
 set:=Wu
 z:=P8.all (P8.all AV.undef)
 NR i h:=by simp only[Ss,sm,xS]
 uc i h v r:=by simp only[Ss,Wu,sm,wo,cG]
 rE i j hi hj h v r:=by
  simp only[Ss,Wu,sm,wo]
  by_cases h1:i/8=j/8
  · rw[h1,cG,dg (by omega) (by omega) (by omega)]
  · rw[dg (by omega) (by omega) h1]
def Su (i:Nat):Acc (P8 (P8 (P8 AV))):=s8 (i/64) fun o=>s8 (i/8%8) fun p=>s8 (i%8) fun q=>⟨fun r=>q (p (o r))⟩
noncomputable def Wv (i:Nat):ZT (P8 (P8 (P8 AV))):=e8 (i/64) fun o=>e8 (i/8%8) fun p=>e8 (i%8) fun q=>⟨fun v r=>o (p (q fun _=>v)) r⟩
noncomputable def rf3:RF where
 T:=P8 (P8 (P8 AV))
 N:=512
 get:=Su
 set:=Wv
 z:=P8.all (P8.all (P8.all AV.undef))
 NR i h:=by simp only[Su,sm,xS]
 uc i h v r:=by simp only[Su,Wv,sm,wo,cG]
 rE i j hi hj h v r:=by
  simp only[Su,Wv,sm,wo]
  by_cases h1:i/64=j/64
  · rw[h1,cG]
    by_cases h2:i/8%8=j/8%8
    · rw[h2,cG,dg (by omega) (by omega) (by omega)]
    · rw[dg (by omega) (by omega) h2]
  · rw[dg (by omega) (by omega) h1]
section
variable (F:RF) (n:Nat)
def dS (r:F.T):List AV:=(List.range n).map fun i=>(F.get i).f r
theorem gJ (r:F.T):(dS F n r).length=n:=by simp [dS]
theorem rF (r:F.T) {i:Nat} (h:i<n):(dS F n r)[i]? =some ((F.get i).f r):=by simp [dS,h]
theorem EN (r:F.T) (i:Nat):(dS F n r).getD i AV.undef=if i<n then (F.get i).f r else AV.undef:=by
 rw[List.getD_eq_getElem?_getD]
 split
 · rename_i h;rw[rF F n r h];rfl
 · rw[List.getElem?_eq_none (by rw[gJ];omega)];rfl
theorem Sv (hn:n≤F.N) (r:F.T) {i:Nat} (h:i<n) (v:AV):(dS F n r).set i v=dS F n ((F.set i).f v r):=by
 apply List.ext_getElem?
 intro j
 rw[List.getElem?_set]
 by_cases hj:j<n
 · rw[rF F n _ hj,rF F n _ hj,gJ]
   by_cases e:i=j
   · subst e;simp [F.uc i (by omega),h]
   · rw[if_neg e,F.rE i j (by omega) (by omega) e]
 · rw[List.getElem?_eq_none (l:=dS F n r) (by rw[gJ];omega),List.getElem?_eq_none (l:=dS F n _) (by rw[gJ];omega),gJ]
   rw[if_neg (by omega)]
noncomputable def MV:List AV→F.T→Nat→F.T:=fun l=>List.rec (motive:=fun _=>F.T→Nat→F.T) (fun r _=>r) (fun v _ ih r i=>ih ((F.set i).f v r) (Nat.add i 1)) l
theorem Sw (r:F.T) (i:Nat):MV F [] r i=r:=rfl
theorem NS (v:AV) (l:List AV) (r:F.T) (i:Nat):MV F (v::l) r i=MV F l ((F.set i).f v r) (i+1):=rfl
theorem I6 (hn:n≤F.N):∀(l:List AV) (r:F.T) (i:Nat),i+l.length≤n→∀j,j<n→(F.get j).f (MV F l r i)=if i≤j∧j<i+l.length then l.getD (j - i) AV.undef else (F.get j).f r
 | [],r,i,_,j,hj=>by rw[Sw,if_neg (by rw[List.length_nil];omega)]
 | v::l,r,i,h,j,hj=>by
   simp only[List.length_cons] at h
   rw[NS,I6 hn l _ (i+1) (by omega) j hj]
   simp only[List.length_cons]
   by_cases h1:i+1≤j∧j<i+1+l.length
   · rw[if_pos h1,if_pos (by omega)]
     obtain ⟨m,hm⟩:∃m,j - i=m+1:=⟨j - i - 1,by omega⟩
     rw[hm,show j -(i+1)=m by omega,List.getD_cons_succ]
   · rw[if_neg h1]
     by_cases h2:i=j
     · subst h2;rw[F.uc i (by omega),if_pos (by omega)];simp
     · rw[F.rE i j (by omega) (by omega) h2,if_neg (by omega)]
theorem I7 (hn:n≤F.N) (l:List AV) (h:l.length≤n):dS F n (MV F l F.z 0)=l++List.replicate (n - l.length) AV.undef:=by
 apply List.ext_getElem?
 intro j
 by_cases hj:j<n
 · rw[rF F n _ hj,I6 F n hn l F.z 0 (by omega) j hj]
   by_cases h1:j<l.length
   · rw[if_pos (by omega),List.getElem?_append_left h1,Nat.sub_zero,List.getD_eq_getElem?_getD,List.getElem?_eq_getElem h1];rfl
   · rw[if_neg (by omega),List.getElem?_append_right (by omega),F.NR j (by omega),List.getElem?_replicate,if_pos (by omega)]
 · rw[List.getElem?_eq_none (by rw[gJ];omega),List.getElem?_eq_none (by simp;omega)]
end
end Go.Ab.Fa
end
section
namespace Go.Ab.Fa
section
variable {R:Type}
noncomputable def hX (f:Bool→R) (d:R) (v:AV):R:=
 AV.rec (motive_1:=fun _=>R) (motive_2:=fun _=>Unit) (fun b=>f b) (fun _ _=>d) (fun _=>d) d (fun _ _=>d) d (fun _ _ _ _ _=>d) d (fun _=>d) (fun _ _ _ _ _=>d) (fun _=>d) d (fun _ _ _=>d) d (fun _ _=>d) (fun _ _=>d) d d () (fun _ _ _ _=>()) v
noncomputable def mh (f:IntKind→Int→R) (d:R) (v:AV):R:=
 AV.rec (motive_1:=fun _=>R) (motive_2:=fun _=>Unit) (fun _=>d) (fun k n=>f k n) (fun _=>d) d (fun _ _=>d) d (fun _ _ _ _ _=>d) d (fun _=>d) (fun _ _ _ _ _=>d) (fun _=>d) d (fun _ _ _=>d) d (fun _ _=>d) (fun _ _=>d) d d () (fun _ _ _ _=>()) v
noncomputable def oS (f:List UInt8→R) (d:R) (v:AV):R:=
 AV.rec (motive_1:=fun _=>R) (motive_2:=fun _=>Unit) (fun _=>d) (fun _ _=>d) (fun s=>f s) d (fun _ _=>d) d (fun _ _ _ _ _=>d) d (fun _=>d) (fun _ _ _ _ _=>d) (fun _=>d) d (fun _ _ _=>d) d (fun _ _=>d) (fun _ _=>d) d d () (fun _ _ _ _=>()) v
noncomputable def vF (f:Nat→Nat→R) (d:R) (v:AV):R:=
 AV.rec (motive_1:=fun _=>R) (motive_2:=fun _=>Unit) (fun _=>d) (fun _ _=>d) (fun _=>d) d (fun i o=>f i o) d (fun _ _ _ _ _=>d) d (fun _=>d) (fun _ _ _ _ _=>d) (fun _=>d) d (fun _ _ _=>d) d (fun _ _=>d) (fun _ _=>d) d d () (fun _ _ _ _=>()) v
noncomputable def hZ (e:R) (f:Nat→Nat→Nat→Nat→Bool→R) (d:R) (v:AV):R:=
 AV.rec (motive_1:=fun _=>R) (motive_2:=fun _=>Unit) (fun _=>d) (fun _ _=>d) (fun _=>d) d (fun _ _=>d) e (fun i o l c b=>f i o l c b) d (fun _=>d) (fun _ _ _ _ _=>d) (fun _=>d) d (fun _ _ _=>d) d (fun _ _=>d) (fun _ _=>d) d d () (fun _ _ _ _=>()) v
noncomputable def vZ (z d:R) (v:AV):R:=
 AV.rec (motive_1:=fun _=>R) (motive_2:=fun _=>Unit) (fun _=>d) (fun _ _=>d) (fun _=>d) d (fun _ _=>d) d (fun _ _ _ _ _=>d) d (fun _=>d) (fun _ _ _ _ _=>d) (fun _=>d) d (fun _ _ _=>d) d (fun _ _=>d) (fun _ _=>d) z d () (fun _ _ _ _=>()) v
noncomputable def I8 (f:FuncId→List AV→List AV→R) (y:Nat→R) (d:R) (v:AV):R:=
 AV.rec (motive_1:=fun _=>R) (motive_2:=fun _=>Unit) (fun _=>d) (fun _ _=>d) (fun _=>d) d (fun _ _=>d) d (fun _ _ _ _ _=>d) d (fun _=>d) (fun g a b _ _=>f g a b) (fun l=>y l) d (fun _ _ _=>d) d (fun _ _=>d) (fun _ _=>d) d d () (fun _ _ _ _=>()) v
noncomputable def vG (f:List AV→R) (t:List AV→R) (d:R) (v:AV):R:=
 AV.rec (motive_1:=fun _=>R) (motive_2:=fun _=>Unit) (fun _=>d) (fun _ _=>d) (fun _=>d) d (fun _ _=>d) d (fun _ _ _ _ _=>d) d (fun _=>d) (fun _ _ _ _ _=>d) (fun _=>d) d (fun _ _ _=>d) d (fun cs _=>f cs) (fun cs _=>t cs) d d () (fun _ _ _ _=>()) v
noncomputable def oT (f:TypeId→AV→R) (d:R) (v:AV):R:=
 AV.rec (motive_1:=fun _=>R) (motive_2:=fun _=>Unit) (fun _=>d) (fun _ _=>d) (fun _=>d) d (fun _ _=>d) d (fun _ _ _ _ _=>d) d (fun _=>d) (fun _ _ _ _ _=>d) (fun _=>d) d (fun t v _=>f t v) d (fun _ _=>d) (fun _ _=>d) d d () (fun _ _ _ _=>()) v
noncomputable def CT (v:AV):Bool:=
 AV.rec (motive_1:=fun _=>Bool) (motive_2:=fun _=>Unit) (fun _=>false) (fun _ _=>false) (fun _=>false) false (fun _ _=>true) false (fun _ _ _ _ _=>true) false (fun _=>true) (fun _ _ _ _ _=>true) (fun _=>false) false (fun _ _ _=>false) false (fun _ _=>false) (fun _ _=>false) false false () (fun _ _ _ _=>()) v
noncomputable def ob {α:Type} (d:R) (f:α→R) (o:Option α):R:=Option.rec (motive:=fun _=>R) d f o
noncomputable def bc (b:Bool) (x y:R):R:=Bool.rec (motive:=fun _=>R) y x b
noncomputable def vH (f:List AV→TypeId→Bool→R) (d:R) (o:aR):R:=
 aR.rec (motive:=fun _=>R) (fun cs e ro=>f cs e ro) (fun _ _=>d) (fun _ _=>d) (fun _ _ _ _=>d) (fun _ _ _ _ _ _ _=>d) d o
noncomputable def jm (f:Nat→R) (d:R) (n:Int):R:=Int.rec (motive:=fun _=>R) f (fun _=>d) n
noncomputable def Ww (a b c d e f g h:R) (k:IntKind):R:=IntKind.rec (motive:=fun _=>R) a b c d e f g h k
end
noncomputable def kc (k:IntKind):Nat:=Ww 0 1 2 3 4 5 6 7 k
noncomputable def NT (k j:IntKind):Bool:=Nat.beq (kc k) (kc j)
noncomputable def r5 (k:IntKind):Nat:=Ww 128 32768 2147483648 9223372036854775808 256 65536 4294967296 18446744073709551616 k
noncomputable def NU (k:IntKind):Nat:=Ww 8 16 32 64 8 16 32 64 k
noncomputable def U2 (k:IntKind):Bool:=Ww true true true true false false false false k
noncomputable def sv (k:IntKind) (n:Int):Int:=
 Int.rec (motive:=fun _=>Int) (fun m=>bc (Nat.ble (r5 k) m) (bc (U2 k) (k.wrap (Int.ofNat m)) (Int.ofNat (Nat.mod m (r5 k)))) (Int.ofNat m))
  (fun m=>bc (U2 k) (bc (Nat.ble (r5 k) m) (k.wrap (Int.negSucc m)) (Int.negSucc m)) (k.wrap (Int.negSucc m))) n
noncomputable def oU (a b:Int):Int:=jm (fun x=>jm (fun y=>Int.ofNat (Nat.add x y)) (Int.add a b) b) (Int.add a b) a
noncomputable def CU (a b:Int):Int:=jm (fun x=>jm (fun y=>bc (Nat.ble y x) (Int.ofNat (Nat.sub x y)) (Int.negSucc (Nat.sub (Nat.sub y x) 1))) (Int.sub a b) b) (Int.sub a b) a
noncomputable def NV (a b:Int):Int:=jm (fun x=>jm (fun y=>Int.ofNat (Nat.mul x y)) (Int.mul a b) b) (Int.mul a b) a
noncomputable def U3 (a b:Int):Bool:=
 Int.rec (motive:=fun _=>Bool) (fun x=>Int.rec (motive:=fun _=>Bool) (fun y=>Nat.beq x y) (fun _=>false) b) (fun x=>Int.rec (motive:=fun _=>Bool) (fun _=>false) (fun y=>Nat.beq x y) b) a
noncomputable def Sx (a b:Int):Bool:=
 Int.rec (motive:=fun _=>Bool) (fun x=>Int.rec (motive:=fun _=>Bool) (fun y=>Nat.ble (Nat.add x 1) y) (fun _=>false) b) (fun x=>Int.rec (motive:=fun _=>Bool) (fun _=>true) (fun y=>Nat.ble (Nat.add y 1) x) b) a
noncomputable def s_ (b:Bool):Bool:=bc b false true
noncomputable def Sy (op:BinOp):IntKind→Int→Int→Option AV:=match op with
 | .add=>fun k a b=>some (.int k (sv k (oU a b)))
 | .sub=>fun k a b=>some (.int k (sv k (CU a b)))
 | .mul=>fun k a b=>some (.int k (sv k (NV a b)))
 | .eql=>fun _ a b=>some (.bool (U3 a b))
 | .neq=>fun _ a b=>some (.bool (s_ (U3 a b)))
 | .lss=>fun _ a b=>some (.bool (Sx a b))
 | .leq=>fun _ a b=>some (.bool (s_ (Sx b a)))
 | .gtr=>fun _ a b=>some (.bool (Sx b a))
 | .geq=>fun _ a b=>some (.bool (s_ (Sx a b)))
 | .quo=>fun k a b=>jm (fun x=>jm (fun y=>bc (Nat.beq y 0) none (some (.int k (sv k (Int.ofNat (Nat.div x y)))))) (cF .quo k a b) b) (cF .quo k a b) a
 | .rem=>fun k a b=>jm (fun x=>jm (fun y=>bc (Nat.beq y 0) none (some (.int k (Int.ofNat (Nat.mod x y))))) (cF .rem k a b) b) (cF .rem k a b) a
 | .and=>fun k a b=>jm (fun x=>jm (fun y=>bc (Nat.ble (r5 k) x) (cF .and k a b) (bc (Nat.ble (r5 k) y) (cF .and k a b) (some (.int k (Int.ofNat (Nat.land x y)))))) (cF .and k a b) b) (cF .and k a b) a
 | .or=>fun k a b=>jm (fun x=>jm (fun y=>bc (Nat.ble (r5 k) x) (cF .or k a b) (bc (Nat.ble (r5 k) y) (cF .or k a b) (some (.int k (Int.ofNat (Nat.lor x y)))))) (cF .or k a b) b) (cF .or k a b) a
 | op=>fun k a b=>cF op k a b
noncomputable def NW (k:IntKind) (y:Nat):Nat:=bc (Nat.ble (NU k) y) (NU k) y
noncomputable def ZU (k:IntKind) (a b:Int):Option AV:=jm (fun y=>some (.int k (sv k (NV a (Int.ofNat (Nat.pow 2 (NW k y))))))) none b
noncomputable def ZV (k:IntKind) (a b:Int):Option AV:=jm (fun y=>some (.int k (jm (fun x=>Int.ofNat (Nat.div x (Nat.pow 2 (NW k y)))) (a.fdiv (2^(min y k.bits))) a))) none b
section
variable {α:Type}
noncomputable def gS (l:List α):Nat:=List.rec (motive:=fun _=>Nat) 0 (fun _ _ ih=>Nat.add ih 1) l
noncomputable def gT (l:List α):Nat→Option α:=List.rec (motive:=fun _=>Nat→Option α) (fun _=>none) (fun v _ ih o=>bc (Nat.beq o 0) (some v) (ih (Nat.sub o 1))) l
noncomputable def qo (l:List α):Nat→List α:=List.rec (motive:=fun _=>Nat→List α) (fun _=> []) (fun v tl ih o=>bc (Nat.beq o 0) (v::tl) (ih (Nat.sub o 1))) l
noncomputable def qp (l:List α):Nat→List α:=List.rec (motive:=fun _=>Nat→List α) (fun _=> []) (fun v _ ih o=>bc (Nat.beq o 0) [] (v::ih (Nat.sub o 1))) l
noncomputable def jF (l m:List α):List α:=List.rec (motive:=fun _=>List α) m (fun v _ ih=>v::ih) l
noncomputable def vI (f:α→Bool) (l:List α):Bool:=List.rec (motive:=fun _=>Bool) true (fun v _ ih=>bc (f v) ih false) l
noncomputable def EO (vs:List α):List α→List α:=
 List.rec (motive:=fun _=>List α→List α) (fun cs=>cs) (fun v _ ih cs=>List.rec (motive:=fun _=>List α) [] (fun _ tl _=>v::ih tl) cs) vs
noncomputable def EP (vs cs:List α):Nat→List α:=
 List.rec (motive:=fun _=>Nat→List α) (fun _=> []) (fun c tl ih o=>bc (Nat.beq o 0) (EO vs (c::tl)) (c::ih (Nat.sub o 1))) cs
noncomputable def leq (f:α→α→Bool) (l:List α):List α→Bool:=
 List.rec (motive:=fun _=>List α→Bool) (fun m=>List.rec (motive:=fun _=>Bool) true (fun _ _ _=>false) m)
  (fun x _ ih m=>List.rec (motive:=fun _=>Bool) false (fun y tl _=>bc (f x y) (ih tl) false) m) l
end
noncomputable def yR (a b:UInt8):Bool:=Nat.beq a.toBitVec.toFin.val b.toBitVec.toFin.val
noncomputable def Sz (v:AV):Bool:=vG (fun _=>false) (fun _=>false) true v
noncomputable def jM (v:AV):List AV:=vG (fun cs=>cs) (fun _=> [v]) [v] v
end Go.Ab.Fa
end
section
namespace Go.Ab.Fa
section
variable {α β:Type}
noncomputable def xE (l:List Nat) (x:Nat):Bool:=List.rec (motive:=fun _=>Bool) false (fun y _ ih=>bc (Nat.beq x y) true ih) l
noncomputable def Wx (f:α→Bool) (l:List α):Bool:=List.rec (motive:=fun _=>Bool) false (fun v _ ih=>bc (f v) true ih) l
noncomputable def allI (f:α→Nat→Bool) (l:List α) (i:Nat):Bool:=List.rec (motive:=fun _=>Nat→Bool) (fun _=>true) (fun v _ ih i=>bc (f v i) (canon (Nat.add i 1) ih) false) l i
noncomputable def ES (f:α→Nat→Bool) (l:List α) (i:Nat):List Nat:=List.rec (motive:=fun _=>Nat→List Nat) (fun _=> []) (fun v _ ih i=>bc (f v i) (i::canon (Nat.add i 1) ih) (canon (Nat.add i 1) ih)) l i
noncomputable def CV (f:α→Bool) (l:List α):Nat:=List.rec (motive:=fun _=>Nat) 0 (fun v _ ih=>bc (f v) (Nat.add ih 1) ih) l
noncomputable def Hm (f:α→Bool) (l:List α):Nat:=List.rec (motive:=fun _=>Nat) 0 (fun v _ ih=>bc (f v) (Nat.add ih 1) 0) l
noncomputable def yS (l:List α) (i:Nat) (d:α):α:=ob d (fun x=>x) (gT l i)
noncomputable def nC (l:List α):(List α→β)→β:=List.rec (motive:=fun _=>(List α→β)→β) (fun k=>k []) (fun x _ ih k=>ih fun tl=>k (x::tl)) l
theorem vJ (l:List α) (k:List α→β):nC l k=k l:=by
 induction l generalizing k with
 | nil=>rfl
 | cons y tl ih=>show nC tl (fun tl=>k (y::tl))=_;rw[ih]
noncomputable def Hn (l:List α) (k:List α→β):β:=List.rec (motive:=fun _=>β) (k []) (fun x tl _=>k (x::tl)) l
theorem KJ (l:List α) (k:List α→β):Hn l k=k l:=by cases l<;>rfl
noncomputable def CW (f:List β→α→List β) (l:List α) (b:List β):List β:=List.rec (motive:=fun _=>List β→List β) (fun b=>b) (fun v _ ih b=>Hn (f b v) ih) l b
theorem Bt (f:List β→α→List β) (l:List α) (b:List β):CW f l b=l.foldl f b:=by
 induction l generalizing b with
 | nil=>rfl
 | cons y tl ih=>show Hn (f b y) (CW f tl)=_;rw[KJ,ih];rfl
theorem qq (b:Bool) (x y:α):bc b x y=bif b then x else y:=by cases b<;>rfl
theorem xF (x y:Nat):(x==y)=Nat.beq x y:=by
 cases h:Nat.beq x y
 · rw[beq_eq_false_iff_ne];intro e;subst e;rw[Nat.beq_refl] at h;exact absurd h (by simp)
 · rw[Nat.eq_of_beq_eq_true h];simp
theorem rG (l:List Nat) (x:Nat):xE l x=l.contains x:=by
 induction l with
 | nil=>rfl
 | cons y tl ih=>
   show bc (Nat.beq x y) true (xE tl x)=_
   rw[ih,qq,List.contains_cons,xF]
   cases Nat.beq x y<;>rfl
theorem SA (f:α→Bool) (l:List α):Wx f l=l.any f:=by
 induction l with
 | nil=>rfl
 | cons y tl ih=>show bc (f y) true (Wx f tl)=_;rw[ih,qq,List.any_cons];cases f y<;>rfl
theorem oV (f:α→Bool) (l:List α):vI f l=l.all f:=by
 induction l with
 | nil=>rfl
 | cons y tl ih=>show bc (f y) (vI f tl) false=_;rw[ih,qq,List.all_cons];cases f y<;>rfl
theorem CX (f:α→Nat→Bool) (l:List α) (i:Nat):allI f l i=(l.zipIdx i).all fun p=>f p.1 p.2:=by
 induction l generalizing i with
 | nil=>rfl
 | cons y tl ih=>show bc (f y i) (canon (i+1) (allI f tl)) false=_;rw[jI,ih,qq,List.zipIdx_cons,List.all_cons];cases f y i<;>rfl
theorem ET (f:α→Nat→Bool) (l:List α) (i:Nat):ES f l i=((l.zipIdx i).filter fun p=>f p.1 p.2).map (·.2):=by
 induction l generalizing i with
 | nil=>rfl
 | cons y tl ih=>
   show bc (f y i) (i::canon (i+1) (ES f tl)) (canon (i+1) (ES f tl))=_
   rw[jI,ih,qq,List.zipIdx_cons,List.filter_cons];cases f y i<;>simp
theorem KK (f:α→Bool) (l:List α):CV f l=(l.filter f).length:=by
 induction l with
 | nil=>rfl
 | cons y tl ih=>show bc (f y) (CV f tl+1) (CV f tl)=_;rw[ih,qq,List.filter_cons];cases f y<;>simp
theorem KL (f:α→Bool) (l:List α):Hm f l=(l.takeWhile f).length:=by
 induction l with
 | nil=>rfl
 | cons y tl ih=>show bc (f y) (Hm f tl+1) 0=_;rw[ih,qq,List.takeWhile_cons];cases f y<;>simp
theorem fK (l:List α) (i:Nat):gT l i=l[i]? :=by
 induction l generalizing i with
 | nil=>rfl
 | cons y tl ih=>
   show bc (Nat.beq i 0) (some y) (gT tl (i - 1))=_
   rw[ih,qq]
   cases i with
   | zero=>rfl
   | succ i=>rw[show Nat.beq (i+1) 0=false from rfl];simp
theorem ud (l:List α) (i:Nat) (d:α):yS l i d=l.getD i d:=by
 unfold yS;rw[fK,List.getD_eq_getElem?_getD];cases l[i]? <;>rfl
theorem eL (l:List α):gS l=l.length:=by
 induction l with
 | nil=>rfl
 | cons y tl ih=>show gS tl+1=_;rw[ih];rfl
theorem lK (l m:List α):jF l m=l++m:=by
 induction l with
 | nil=>rfl
 | cons y tl ih=>show y::jF tl m=_;rw[ih];rfl
end
noncomputable def wF (p:Program) (t:TypeId):Option TypeInfo:=ob (p.info? t) (fun i=>some i) (gT p.types.toList t)
noncomputable def U4 (i:TypeInfo) (p:Program):Option TypeDesc:=TypeDesc.rec (motive:=fun _=>Option TypeDesc) (some i.desc) (some i.desc) (fun _=>some i.desc) (fun _=>some i.desc) (fun _=>some i.desc) (some i.desc) (some i.desc)
 (fun _=>some i.desc) (fun _=>some i.desc) (fun _ _=>some i.desc) (fun _ _=>some i.desc) (fun _ _=>some i.desc) (fun _=>some i.desc) (fun _ _ _=>some i.desc) (fun _=>some i.desc) (fun _=>some i.desc)
 (fun _ u=>ob none (fun j=>some j.desc) (wF p u)) i.desc
noncomputable def iC (p:Program) (t:TypeId):Option TypeDesc:=ob none (fun i=>U4 i p) (wF p t)
theorem qt (p:Program) (t:TypeId):wF p t=p.info? t:=by
 unfold wF;rw[fK,Array.getElem?_toList]
 cases h:p.types[t]? with
 | none=>rfl
 | some i=>
   show some i=p.info? t
   unfold Tables.info?
   obtain ⟨jE,_⟩:=Array.getElem?_eq_some_iff.mp h
   rw[if_pos jE,h]
theorem gK (p:Program) (t:TypeId):iC p t=p.underlying t:=by
 unfold iC Program.underlying
 rw[qt]
 cases p.info? t with
 | none=>rfl
 | some i=>
   show U4 i p=_
   obtain ⟨d,_⟩:=i
   cases d with
   | named a u=>show ob none (fun j=>some j.desc) (wF p u)=Option.map (fun x=>x.desc) (p.info? u);rw[qt];cases p.info? u<;>rfl
   | _=>rfl
noncomputable def Wy (p:Program) (f:FuncId):Option Func:=gT p.funcs.toList f
theorem SB (p:Program) (f:FuncId):Wy p f=p.funcs[f]? :=by
 unfold Wy;rw[fK];exact Array.getElem?_toList
variable (E:Env)
noncomputable def oa (op:Op):Bool:=match op with
 | .store .. | .mapUpdate .. | .insert .. | .mapEntry .. | .entryStore .. | .next .. | .panic _ | .defer _=>true
 | .convert _ dst _=>match iC E.P dst with
   | some (.slice _)=>true
   | _=>false
 | .call c=>match c.callee with
   | .builtin .len | .builtin .cap | .builtin .max | .builtin .min=>false
   | .builtin _=>true
   | .value (.func f)=>match E.kB f with
     | none=>true
     | some _=>false
   | _=>true
 | _=>false
theorem qu (op:Op):oa E op=et E op:=by
 unfold oa et
 cases op<;>try rfl
 · simp only[gK]
   rename_i dst _
   generalize E.P.underlying dst=u
   cases u with
   | none=>rfl
   | some d=>cases d<;>rfl
 · rename_i c
   rcases c with ⟨dw,a,t⟩
   cases dw with
   | value x=>
     cases x with
     | func f=>simp only;cases E.kB f<;>rfl
     | _=>rfl
   | builtin b=>cases b<;>rfl
   | _=>rfl
noncomputable def U5 (g:Ground):Bool:=Ground.rec (motive:=fun _=>Bool) true true true true (fun _=>false) (fun _=>false) g
noncomputable def ta (o:Oper):List Nat:=List.rec (motive:=fun _=>List Nat) [] (fun e _ ih=>bc (U5 e.ground) (e.on::ih) ih) o.after.toList
theorem Bu (o:Oper):ta o=jg o:=by
 unfold ta jg
 induction o.after.toList with
 | nil=>rfl
 | cons e tl ih=>
   show bc (U5 e.ground) (e.on::_) _=_
   rw[ih,List.filter_cons]
   obtain ⟨on,g⟩:=e
   cases g<;>rfl
noncomputable def SC (l:List Nat) (x:Nat):List Nat:=bc (xE l x) l (x::l)
noncomputable def I9 (acc:List (List Nat)) (es:List Nat):List Nat:=CW (fun l e=>CW SC (yS acc e []) (SC l e)) es []
noncomputable def NX (l:List Oper):List (List Nat)→List (List Nat):=List.rec (motive:=fun _=>List (List Nat)→List (List Nat)) (fun acc=>acc) (fun o _ ih acc=>nC (I9 acc (ta o)) fun a=>nC (jF acc [a]) ih) l
theorem I_ (l:List Nat) (x:Nat):SC l x=if l.contains x then l else x::l:=by
 unfold SC;rw[rG,qq];cases l.contains x<;>rfl
theorem NY (acc:List (List Nat)) (o:Oper):I9 acc (ta o)=(jg o).foldl (fun l e=>(acc.getD e []).foldl (fun l x=>if l.contains x then l else x::l) (if l.contains e then l else e::l)) []:=by
 unfold I9
 rw[Bt,Bu]
 congr 1
 funext l e
 rw[Bt,ud,I_]
 congr 1
 funext l x
 exact I_ l x
theorem EU:∀(l:List Oper) (acc:List (List Nat)),NX l acc=D8 l acc
 | [],_=>rfl
 | o::rest,acc=>by
   show nC (I9 acc (ta o)) (fun a=>nC (jF acc [a]) (NX rest))=_
   rw[vJ,vJ,EU rest,lK,NY];rfl
noncomputable def mi (an:List (List Nat)) (i j:Nat):Bool:=xE (yS an i []) j
theorem oc (an:List (List Nat)) (i j:Nat):mi an i j=cU an i j:=by
 unfold mi cU D9;rw[rG,ud]
noncomputable def yT (ops:List Oper) (an:List (List Nat)):Bool:=
 allI (fun o i=>bc (vI (fun e=>bc (Nat.ble (Nat.add e 1) i) (mi an i e) false) (ta o)) (vI (fun j=>bc (Nat.ble (Nat.add j 1) i) (Wx (fun e=>bc (Nat.beq e j) true (mi an e j)) (ta o)) false) (yS an i [])) false) ops 0
theorem rH (a b:Nat):decide (a<b)=Nat.ble (a+1) b:=by
 by_cases h:a<b
 · rw[decide_eq_true h,Nat.ble_eq_true_of_le h]
 · rw[decide_eq_false h];symm;rw[Bool.eq_false_iff];intro e;exact h (Nat.le_of_ble_eq_true e)
theorem mj (a b:Bool):bc a b false=(a&&b):=by cases a<;>rfl
theorem U6 (a b:Bool):bc a true b=(a||b):=by cases a<;>rfl
theorem EV (ops:List Oper) (an:List (List Nat)):yT ops an=xU ops an:=by
 unfold yT xU
 rw[CX]
 congr 1
 funext ⟨o,i⟩
 simp only[mj,U6,oV,SA,ud,Bu,oc,rH,xF]
 rfl
noncomputable def Wz (l:List Operand):List Nat:=List.rec (motive:=fun _=>List Nat) [] (fun x _ ih=>Operand.rec (motive:=fun _=>List Nat) (fun t=>t::ih) (fun _=>ih) (fun _=>ih) (fun _=>ih) x) l
theorem SD (l:List Operand):Wz l=l.filterMap fun | .tmp t=>some t | _=>none:=by
 induction l with
 | nil=>rfl
 | cons x tl ih=>
   cases x<;>simp only[List.filterMap_cons,←ih]<;>rfl
noncomputable def opL (op:Op):List Operand:=match op with
 | .move x | .assign x | .box _ x | .load _ x | .nilCheck x | .unOp _ _ x | .convert _ _ x | .fieldAddr _ x _ | .field _ x _ | .extract x _=> [x]
 | .pick c a b=> [c,a,b]
 | .store _ a v | .binOp _ _ a v _ | .indexAddr _ a v | .index _ a v=> [a,v]
 | .alloc _=> []
 | .call c=>jF (match c.callee with | .value f=> [f] | .invoke r _=> [r] | .builtin _=> []) c.args.toList
 | op=>op.operands.toList
theorem WA (op:Op):opL op=op.operands.toList:=by
 cases op<;>try rfl
 rename_i c
 obtain ⟨dw,a,t⟩:=c
 cases dw<;>simp [opL,Op.operands,Call.operands,lK]
noncomputable def yU (ops:List Oper) (an:List (List Nat)):Bool:=
 allI (fun o i=>bc (ob true (fun g=>bc (mi an i g.1) (ob false (fun p=>ob false (fun _=>true) p.dst) (gT ops g.1)) false) o.guard)
  (allI (fun p j=>bc (Nat.beq i j) true (ob true (fun d=>bc (ob true (fun a=>s_ (Nat.beq a d)) o.dst) (bc (xE (Wz (opL o.op)) d) (bc (mi an i j) true (mi an j i)) true) false) p.dst)) ops 0) false) ops 0
theorem EW (ops:List Oper) (an:List (List Nat)):yU ops an=xV ops an:=by
 unfold yU xV
 rw[CX]
 congr 1
 funext ⟨o,i⟩
 simp only[mj,U6,oc]
 congr 1
 · obtain ⟨dst,op,ty,pos,after,guard⟩:=o
   cases guard with
   | none=>rfl
   | some g=>
     show (cU an i g.1&&ob false (fun p=>ob false (fun _=>true) p.dst) (gT ops g.1))=_
     rw[fK]
     congr 1
     cases ops[g.1]? with
     | none=>rfl
     | some p=>
       show ob false (fun _=>true) p.dst=(p.dst).isSome
       cases p.dst<;>rfl
 · rw[CX]
   congr 1
   funext ⟨p,j⟩
   show (Nat.beq i j||_)=(i==j||_)
   rw[xF]
   congr 1
   obtain ⟨dst,op,ty,pos,after,guard⟩:=p
   cases dst with
   | none=>rfl
   | some d=>
     show (ob true (fun a=>s_ (Nat.beq a d)) o.dst&&bc (xE (Wz (opL o.op)) d) (cU an i j||cU an j i) true)=(o.dst !=some d&&(!(tmpsOf o).contains d||cU an i j||cU an j i))
     congr 1
     · cases o.dst with
       | none=>rfl
       | some a=>
         show s_ (Nat.beq a d)= !(some a==some d)
         rw[Option.some_beq_some,xF]
         cases Nat.beq a d<;>rfl
     · rw[rG,SD,WA,Bool.or_assoc]
       show bc ((tmpsOf o).contains d) _ _=_
       cases (tmpsOf o).contains d<;>rfl
noncomputable def Ho (an:List (List Nat)) (l:List Nat):Bool:=List.rec (motive:=fun _=>Bool) true (fun e rest ih=>List.rec (motive:=fun _=>Bool) true (fun f _ _=>bc (mi an f e) ih false) rest) l
theorem Bv (an:List (List Nat)):∀l,Ho an l=rp an l
 | []=>rfl
 | [e]=>rfl
 | e::f::rest=>by
   show bc (mi an f e) (Ho an (f::rest)) false=_
   rw[Bv an (f::rest),oc,mj];rfl
noncomputable def NZ (ops:List Oper):List Nat:=ES (fun o _=>oa E o.op) ops 0
theorem N0 (ops:List Oper):NZ E ops=lr E ops:=by
 unfold NZ lr;rw[ET];simp only[qu]
noncomputable def Bw (bD:List Nat) (an:List (List Nat)) (i:Nat):Nat:=CV (fun e=>mi an i e) bD
theorem EX (bD:List Nat) (an:List (List Nat)) (i:Nat):Bw bD an i=Cl bD an i:=by
 unfold Bw Cl;rw[KK];simp only[oc]
noncomputable def CY (ops:List Oper) (bD:List Nat) (an:List (List Nat)) (k:Nat):List Nat:=
 jF (ES (fun o i=>bc (oa E o.op) false (Nat.beq (Bw bD an i) k)) ops 0) (ob [] (fun x=> [x]) (gT bD k))
theorem KM (ops:List Oper) (bD:List Nat) (an:List (List Nat)) (k:Nat):CY E ops bD an k=group E ops bD an k:=by
 unfold CY group
 rw[lK,ET,fK]
 congr 1
 · congr 1
   congr 1
   funext ⟨o,i⟩
   show bc (oa E o.op) false (Nat.beq (Bw bD an i) k)=(!et E o.op&&(Cl bD an i==k))
   rw[qu,EX,xF];cases et E o.op<;>rfl
 · cases bD[k]? <;>rfl
noncomputable def CZ (ops:List Oper) (bD:List Nat) (an:List (List Nat)) (n:Nat):Nat→List Nat:=
 Nat.rec (motive:=fun _=>Nat→List Nat) (fun _=> []) (fun _ ih k=>jF (CY E ops bD an k) (canon (Nat.add k 1) ih)) n
theorem yV (ops:List Oper) (bD:List Nat) (an:List (List Nat)):∀n k,CZ E ops bD an n k=lX E ops bD an n k
 | 0,_=>rfl
 | n+1,k=>by
   show jF (CY E ops bD an k) (canon (k+1) (CZ E ops bD an n))=_
   rw[jI,yV ops bD an n,lK,KM];rfl
noncomputable def xY (bD:List Nat) (an:List (List Nat)) (i:Nat):Nat:=Hm (fun e=>s_ (mi an e i)) bD
theorem Hp (bD:List Nat) (an:List (List Nat)) (i:Nat):xY bD an i=iM bD an i:=by
 unfold xY iM;rw[KL];congr 2;funext e;rw[oc];cases cU an e i<;>rfl
noncomputable def Hq (n:Nat):List Nat→List Nat:=Nat.rec (motive:=fun _=>List Nat→List Nat) (fun l=>l) (fun m ih l=>ih (m::l)) n
theorem Bx:∀n l,Hq n l=List.range.loop n l
 | 0,_=>rfl
 | n+1,l=>Bx n (n::l)
noncomputable def C1 (ops:List Oper) (an:List (List Nat)) (bD:List Nat) (l:List Nat):List Nat→Nat→Bool:=
 List.rec (motive:=fun _=>List Nat→Nat→Bool) (fun seen k=>bc (vI (fun i=>xE seen i) (Hq (gS ops) [])) (Nat.beq k (gS bD)) false)
  (fun i _ ih seen k=>bc (Nat.ble (Nat.add i 1) (gS ops)) (bc (xE seen i) false (bc (vI (fun j=>xE seen j) (yS an i []))
   (bc (ob (oa E (default:Oper).op) (fun o=>oa E o.op) (gT ops i)) (bc (ob false (fun e=>Nat.beq e i) (gT bD k)) (canon (Nat.add k 1) (ih (i::seen))) false)
    (bc (Nat.beq (Bw bD an i) k) (ih (i::seen) k) false)) false)) false) l
theorem vK (ops:Array Oper) (an:List (List Nat)) (bD:List Nat):∀l seen k,C1 E ops.toList an bD l seen k=jh E ops an bD l seen k
 | [],seen,k=>by
   show bc (vI (fun i=>xE seen i) (Hq (gS ops.toList) [])) (Nat.beq k (gS bD)) false=_
   rw[mj,oV,Bx,eL,eL]
   simp only[rG]
   unfold jh
   rw[xF,Array.length_toList]
   rfl
 | i::rest,seen,k=>by
   show bc (Nat.ble (i+1) (gS ops.toList)) (bc (xE seen i) false (bc (vI (fun j=>xE seen j) (yS an i []))
    (bc (ob (oa E (default:Oper).op) (fun o=>oa E o.op) (gT ops.toList i)) (bc (ob false (fun e=>Nat.beq e i) (gT bD k)) (canon (k+1) (C1 E ops.toList an bD rest (i::seen))) false)
     (bc (Nat.beq (Bw bD an i) k) (C1 E ops.toList an bD rest (i::seen) k) false)) false)) false=_
   rw[jI,vK ops an bD rest,vK ops an bD rest,oV,ud,rG,EX,eL]
   simp only[rG]
   rw[show ob (oa E (default:Oper).op) (fun o=>oa E o.op) (gT ops.toList i)=et E ((ops.getD i default).op) by
    rw[fK,qu]
    rw[show ops.getD i default=(ops.toList[i]?).getD default by rw[Array.getElem?_toList,Array.getD_eq_getD_getElem?]]
    cases ops.toList[i]? with
    | none=>rfl
    | some o=>exact qu E o.op]
   rw[show ob false (fun e=>Nat.beq e i) (gT bD k)=(bD[k]? ==some i) by rw[fK];cases bD[k]? with
    | none=>rfl
    | some e=>rw[Option.some_beq_some,xF];rfl]
   rw[jh,rH]
   simp only[mj]
   rw[←xF (Cl bD an i) k,show ops.toList.length=ops.size from Array.length_toList]
   rw[qq,qq]
   show (Nat.ble (i+1) ops.size&&(bif List.contains seen i then false else _))=_
   unfold D9
   cases Nat.ble (i+1) ops.size<;>cases List.contains seen i<;>cases (an.getD i []).all (fun j=>List.contains seen j)<;>cases et E ((ops.getD i default).op)<;>rfl
noncomputable def nin (x:Nat) (l:List Nat):Bool:=List.rec (motive:=fun _=>Bool) true (fun y _ ih=>bc (Nat.beq x y) false ih) l
noncomputable def C2 (l:List Nat):Bool:=List.rec (motive:=fun _=>Bool) true (fun x tl ih=>bc (nin x tl) ih false) l
theorem WB (x:Nat) (l:List Nat):nin x l= !l.contains x:=by
 induction l with
 | nil=>rfl
 | cons y tl ih=>
   show bc (Nat.beq x y) false (nin x tl)=_
   rw[ih,List.contains_cons,xF]
   cases Nat.beq x y<;>rfl
theorem vL:∀l,C2 l=nodup l
 | []=>rfl
 | x::tl=>by
   show bc (nin x tl) (C2 tl) false=_
   rw[vL tl,WB,mj];rfl
noncomputable def N1 {R:Type} (ops:Array Oper) (k:kh→R) (d:R):R:=
 nC ops.toList fun l=>nC (NX l []) fun an=>nC (NZ E l) fun bD=>nC (CZ E l bD an (Nat.add (gS bD) 1) 0) fun order=>
 bc (yT l an) (bc (yU l an) (bc (Ho an bD) (bc (C2 bD) (bc (C1 E l an bD order [] 0) (k ⟨an,bD,order⟩) d) d) d) d) d
theorem N2 {R:Type} (ops:Array Oper) (k:kh→R) (d:R):N1 E ops k d=match p8 E ops with | some pl=>k pl | none=>d:=by
 unfold N1 p8
 simp only[vJ,EU,N0,yV,EV,EW,Bv,vL,vK,eL]
 generalize xU ops.toList (D8 ops.toList [])=a
 generalize xV ops.toList (D8 ops.toList [])=b
 generalize rp (D8 ops.toList []) (lr E ops.toList)=c
 generalize nodup (lr E ops.toList)=e
 show bc a (bc b (bc c (bc e (bc (jh E ops _ _ (lX E ops.toList _ _ ((lr E ops.toList).length+1) 0) [] 0) _ d) d) d) d) d=_
 generalize jh E ops (D8 ops.toList []) (lr E ops.toList) (lX E ops.toList (lr E ops.toList) (D8 ops.toList []) ((lr E ops.toList).length+1) 0) [] 0=f
 cases a<;>cases b<;>cases c<;>cases e<;>cases f<;>rfl
end Go.Ab.Fa
end
