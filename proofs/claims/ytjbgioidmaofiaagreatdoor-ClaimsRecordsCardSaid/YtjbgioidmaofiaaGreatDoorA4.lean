import Derived.Test.YtjbgioidmaofiaaGreatDoorA3
import Derived.Test.YtjbgioidmaofiaaGreatDoorA0
set_option linter.unusedVariables false
set_option linter.unusedSimpArgs false
section
namespace Go.Ab
variable {E:Env}
def CD (P:Program) (m:Machine) (b:Frame) (k:List Item) (cs:List Frame):Exit→Act→World→Prop
 | .normal,a,w=>Steps P m (lone (b.atR a k) cs w)
 | .exit id,a,w=>∃todo,exitTo id todo=exitTo id k∧Steps P m (lone (b.atR a (.code (.exit id)::todo)) cs w)
 | .ret,a,w=>∃todo,Steps P m (lone (b.atR a (.code .ret::todo)) cs w)
 | .panic chain,a,w=>∃todo,Steps P m (lone {b.atR a todo with mode:= .panicking chain} cs w)
 | _,_,_=>False
theorem CD.of_steps {P:Program} {m m':Machine} {b:Frame} {k:List Item} {cs:List Frame} {e:Exit} {a:Act} {w:World} (hs:Steps P m m') (h:CD P m' b k cs e a w):CD P m b k cs e a w:=by
 cases e with
 | normal=>exact Steps.trans hs h
 | exit id=>obtain ⟨t,h1,h2⟩:=h;exact ⟨t,h1,Steps.trans hs h2⟩
 | ret=>obtain ⟨t,h2⟩:=h;exact ⟨t,Steps.trans hs h2⟩
 | panic c=>obtain ⟨t,h2⟩:=h;exact ⟨t,Steps.trans hs h2⟩
 | goto l=>exact h.elim
 | outgrown=>exact h.elim
theorem CD.pass {P:Program} {m:Machine} {b:Frame} {x:Item} {k:List Item} {cs:List Frame} {e:Exit} {a:Act} {w:World} (hx:∀id,exitTo id (x::k)=exitTo id k) (hn:e≠ .normal) (h:CD P m b (x::k) cs e a w):CD P m b k cs e a w:=by
 cases e with
 | normal=>exact absurd rfl hn
 | exit id=>obtain ⟨t,h1,h2⟩:=h;exact ⟨t,h1.trans (hx id),h2⟩
 | ret=>exact h
 | panic c=>exact h
 | goto l=>exact h.elim
 | outgrown=>exact h.elim
structure mh (E:Env) (φ:Ph) (h:ag) (w:World) (b:Frame) (K:Bool→List Frame) (k:List Item) (m:Machine) (e:gR) (s':St):Prop where
 is:∃φ' w' a' e',Sw φ' e e'∧SR φ' s'.ts s'.ds a'∧OK E φ' s'.h w'∧Fr φ h w φ' s'.h w'∧jF φ' b K s'.rc∧CD E.P m b k (cur K s'.rc) e' a' w'
theorem mh.of_steps {φ:Ph} {h:ag} {w:World} {b:Frame} {K:Bool→List Frame} {k:List Item} {m m':Machine} {e:gR} {s':St} (hs:Steps E.P m m') (x:mh E φ h w b K k m' e s'):mh E φ h w b K k m e s':=by
 obtain ⟨φ',w',a',e',h1,h2,h3,h4,h5,h6⟩:=x.is
 exact ⟨φ',w',a',e',h1,h2,h3,h4,h5,.of_steps hs h6⟩
theorem mh.later {φ φ₁:Ph} {h h₁:ag} {w w₁:World} {b:Frame} {K:Bool→List Frame} {k:List Item} {m:Machine} {e:gR} {s':St} (f:Fr φ h w φ₁ h₁ w₁) (x:mh E φ₁ h₁ w₁ b K k m e s'):mh E φ h w b K k m e s':=by
 obtain ⟨φ',w',a',e',h1,h2,h3,h4,h5,h6⟩:=x.is
 exact ⟨φ',w',a',e',h1,h2,h3,f.trans h4,h5,h6⟩
theorem OK.made {φ:Ph} {h h':ag} {w:World} (ok:OK E φ h w) {o:aw} {O:Obj} (hn:h.new o=some h') (ho:OR E (φ.add h.nx ⟨w.heap.size,0,0⟩) o ⟨w.heap.size,0,0⟩ (some O)):
 OK E (φ.add h.nx ⟨w.heap.size,0,0⟩) h' (w.alloc O)∧Fr φ h w (φ.add h.nx ⟨w.heap.size,0,0⟩) h' (w.alloc O)∧φ.le (φ.add h.nx ⟨w.heap.size,0,0⟩):=
 ok.fresh (w':=w.alloc O) hn ⟨w.heap.size,0,0⟩ (by rw[show (w.alloc O).heap=w.heap.push O from rfl];simpa using ho)
  (fun c cH hc=>by rw[show (w.alloc O).heap=w.heap.push O from rfl,Array.getElem?_push,if_neg (by simpa using cH)]) (by simp) (Nat.le_refl _) rfl rfl rfl
theorem OK.SG {φ:Ph} {h:ag} {w:World} (ok:OK E φ h w) {i:Nat} {o o':aw} {l:Loc} (hg:h.get i=some o) (ym:o.rw=true) (hl:φ i=some l) {O:Obj} (ho:OR E φ o' l (some O)):
 OK E φ (h.put i (some o')) (w.putObj l.cG O)∧Fr φ h w φ (h.put i (some o')) (w.putObj l.cG O):=by
 have iv:l.cG<w.heap.size:=by
  rcases Nat.lt_or_ge l.cG w.heap.size with h1 | h1
  · exact h1
  · have:=ok.live i o l hg hl
    rw[Array.getElem?_eq_none h1] at this
    exact this.absurd.elim
 exact ok.change hg ym hl (by rw[World.putObj_heap_same iv];exact ho) (fun c hc=>World.putObj_heap_other hc) World.putObj_size rfl rfl rfl
theorem OK.shut {φ:Ph} {h:ag} {w:World} (ok:OK E φ h w) {i:Nat} {o:aw} {l:Loc} (hg:h.get i=some o) (ym:o.rw=true) (hl:φ i=some l) (O:Obj):
 OK E φ (h.put i none) (w.putObj l.cG O)∧Fr φ h w φ (h.put i none) (w.putObj l.cG O):=by
 have dw:∀j p,(h.put i none).get j=some p→h.get j=some p∧j≠i:=fun j p hj=>by
  by_cases e:i=j
  · subst e;rw[ag.bu] at hj;simp at hj
  · rw[ag.aI e] at hj;exact ⟨hj,Ne.symm e⟩
 refine ⟨⟨ok.sE,ok.nx,ok.nK,fun j p m hj hm=>?_,fun j k p q m n hj hk=>ok.inj j k p q m n (dw j p hj).1 (dw k q hk).1⟩,
  ⟨Ph.le_refl φ,fun _ _=>rfl,Nat.le_refl _,rfl,rfl,rfl,by simp,fun b _ hn=>World.putObj_heap_other (fun e=>hn i o l hg ym hl e.symm),fun j p m hj hr hm=> .inr ⟨j,p,m,(dw j p hj).1,hr,hm,rfl⟩⟩⟩
 obtain ⟨j6,cH⟩:=dw j p hj
 rw[World.putObj_heap_other (fun e=>cH (ok.inj j i p o m l j6 hg hm hl (.inr ym) e))]
 exact ok.live j p m j6 hm
theorem CE {s:St} {dn:Nat} {h1:ag} {Sf:List kb} (ho:JM s=some (dn,h1,Sf)) {φ:Ph} {a:Act} {w:World} {b:Frame} {K:Bool→List Frame} (hs:SR φ s.ts s.ds a) (ok:OK E φ s.h w) (dV:jF φ b K s.rc)
 (ps:Array Tmp) (as_ bd:Code):∃φ1 w1 ld mark,φ.le φ1∧OK E φ1 h1 w1∧Fr φ s.h w φ1 h1 w1∧φ1 dn=some ld∧SR φ1 s.ts Sf {a with defers:=mark++a.defers}∧
  (Instr.enterLoop b.fn a.tmps ps as_ bd b.roundOf).run E.P w= .ok (w1.heap.size,mark) (w1.alloc (.loop {state:= .ready,pending:=none,fn:=b.fn,tmps:=a.tmps,params:=ps,assign:=as_,body:=bd,defers:=ld.cG})):=by
 unfold JM at ho
 split at ho
 · rename_i l hl
   split at ho
   · rename_i st pd ts nJ qW UB UC hg
     simp at ho;obtain ⟨rfl,rfl,rfl⟩:=ho
     rw[hl] at dV
     obtain ⟨ll,hφ,J8⟩:=dV
     obtain ⟨_,r,hr,sQ⟩:=ok.live _ _ _ hg hφ
     obtain ⟨ld,hd1,SE⟩:=sQ.defers
     refine ⟨φ,w,ld,[],Ph.le_refl φ,ok,Fr.refl _ _ _,hd1,⟨hs.ts,hs.ds⟩,?_⟩
     rw[J8,run_enterLoop_inner hr,SE]
   · simp at ho
 · rename_i yh
   split at ho
   · rename_i h1' hn
     simp at ho;obtain ⟨rfl,rfl,rfl⟩:=ho
     obtain ⟨CA,UO,hle⟩:=ok.made (O:= .deferred (some [])) hn ⟨rfl,rfl⟩
     have et:(φ.add s.h.nx ⟨w.heap.size,0,0⟩) s.h.nx=some ⟨w.heap.size,0,0⟩:=by simp [Ph.add]
     refine ⟨_,_,⟨w.heap.size,0,0⟩,[{target:= .collected w.heap.size,args:= #[]}],hle,CA,UO,et,⟨hs.ts.mono hle,⟨_,et,rfl⟩,hs.ds.mono hle⟩,?_⟩
     rw[dV.plain (vm yh),run_enterLoop_outer]
     simp
   · simp at ho
theorem Kj {c:Code} {e:gR} (h:GP (some c)=some e):(∃id,c= .exit id∧e= .exit id)∨(c= .ret∧e= .ret):=by
 cases c<;>simp [GP] at h
 · exact .inl ⟨_,rfl,h.symm⟩
 · exact .inr ⟨rfl,h.symm⟩
theorem AI {call:aB} (bS:eR E call) {f:Operand} {ps:Array Tmp} {as_ bd:Code} {s s':St} {e:gR} (h:jC E call f ps as_ bd s= .ok e s')
 {φ:Ph} {a:Act} {w:World} {b:Frame} {k:List Item} {K:Bool→List Frame} (hs:SR φ s.ts s.ds a) (ok:OK E φ s.h w) (dV:jF φ b K s.rc) (qY:(E.P.funcs[b.fn]?).isSome=true):
 mh E φ s.h w b K k (lone (b.atR a (.code (.rangeFunc f ps as_ bd)::k)) (cur K s.rc) w) e s':=by
 unfold jC at h
 split at h
 · rename_i g first captured hf
   split at h
   · rename_i dn h1 Sf ho
     split at h
     · rename_i h2 hn
       have hfv:=jD ok.gl hs.ts hf
       generalize ij:a.eval f=cv at hfv
       obtain ⟨OG,eE,rfl,Yd,hcs⟩:=hfv.uX
       obtain ⟨φ1,w1,ld,mark,VH,CA,UO,hld,mM,qp⟩:=CE ho hs ok dV ps as_ bd
       obtain ⟨vt,SB,OO⟩:=CA.made (O:= .loop {state:= .ready,pending:=none,fn:=b.fn,tmps:=a.tmps,params:=ps,assign:=as_,body:=bd,defers:=ld.cG}) hn
        ⟨rfl,_,rfl,⟨rfl,rfl,hs.ts.mono (Ph.le_trans VH (fun j m hm=>by
         unfold Ph.add;split
         · rename_i e;subst e;exact absurd (CA.sE _ _ hm) (Nat.lt_irrefl _)
         · exact hm)),rfl,rfl,rfl,⟨ld,by
         unfold Ph.add;split
         · rename_i e;subst e;exact absurd (CA.sE _ _ hld) (Nat.lt_irrefl _)
         · exact hld,rfl⟩,qY⟩⟩
       have hle:=Ph.le_trans VH OO
       have et:(φ1.add h1.nx ⟨w1.heap.size,0,0⟩) h1.nx=some ⟨w1.heap.size,0,0⟩:=by simp [Ph.add]
       generalize hφ2:φ1.add h1.nx ⟨w1.heap.size,0,0⟩=φ2 at vt SB OO hle et
       have hl:LR φ2 (first++[.nW h1.nx]++captured) (OG.toList++[.func (.yield w1.heap.size) #[] #[]]++eE.toList):=
        ((Yd.mono hle).append (.cons (.yield et) (.nil φ2))).append (hcs.mono hle)
       have yz:∀w',(resolve a.eval (rangeCall f w1.heap.size) 0).run E.P w'= .ok {target:= .fn (.func g) eE,args:=OG++ #[.func (.yield w1.heap.size) #[] #[]]} w':=fun w'=>by
        have ZQ:a.eval (.const (.func (.yield w1.heap.size) #[] #[]))= .func (.yield w1.heap.size) #[] #[]:=rfl
        simp [resolve,Deferred.ofValue,ij,ZQ]
       have start:∀n st,kq E φ2 (w1.alloc (.loop {state:= .ready,pending:=none,fn:=b.fn,tmps:=a.tmps,params:=ps,assign:=as_,body:=bd,defers:=ld.cG})) (.fn g) (OG.toList++[.func (.yield w1.heap.size) #[] #[]]++eE.toList) n st→
        step E.P (lone (b.atR a (.code (.rangeFunc f ps as_ bd)::k)) (cur K s.rc) w)= .next (lone st (b.atR {a with defers:=mark++a.defers} (.inRangeFunc w1.heap.size::k)::cur K s.rc)
         (w1.alloc (.loop {state:= .ready,pending:=none,fn:=b.fn,tmps:=a.tmps,params:=ps,assign:=as_,body:=bd,defers:=ld.cG}))):=fun n st hp=>by
        cases hp with
        | fn _ _ hr=>
          have hinv:(invoke (Target.fn (.func g) eE) (OG++ #[.func (.yield w1.heap.size) #[] #[]])).run E.P (w1.alloc (.loop {state:= .ready,pending:=none,fn:=b.fn,tmps:=a.tmps,params:=ps,assign:=as_,body:=bd,defers:=ld.cG}))=
           .ok (.enter g (OG.toList++[Value.func (.yield w1.heap.size) #[] #[]]++eE.toList).toArray) (w1.alloc (.loop {state:= .ready,pending:=none,fn:=b.fn,tmps:=a.tmps,params:=ps,assign:=as_,body:=bd,defers:=ld.cG})):=by
           have e:(OG.toList++[Value.func (.yield w1.heap.size) #[] #[]]++eE.toList).toArray=OG++ #[Value.func (.yield w1.heap.size) #[] #[]]++eE:=by
            apply Array.toList_inj.1;simp
           rw[e] at hr ⊢
           simpa [invoke] using hr
          exact stepR_rangeFunc qp (yz _) hinv
       split at h
       ·
        rename_i v h3 hc
        obtain ⟨n,st,hp,dZ⟩:=bS.ret _ _ _ _ _ hc φ2 _ _ vt trivial hl
        obtain ⟨φ3,w3,v',_,Ys,N9,eZ⟩:=dZ (b.atR {a with defers:=mark++a.defers} (.inRangeFunc w1.heap.size::k)) (cur K s.rc)
        rw[finish_atR_inRangeFunc] at eZ
        split at h
        · simp at h
        · rename_i st' fH iU nJ qW UB UC yh hg
          split at h
          · rename_i e1 hj
            simp at h;obtain ⟨rfl,rfl⟩:=h
            have OP:=N9.ext _ _ et
            obtain ⟨_,r,hr,sQ⟩:=Ys.live _ _ _ hg OP
            have VI:r.state≠ .busy:=by rw[sQ.state];intro e;subst e;exact yh rfl
            obtain ⟨VJ,ZR⟩:=Ys.SG (o':= .loop .exhausted fH iU nJ qW UB UC) hg rfl OP (O:= .loop {r with state:= .exhausted}) ⟨rfl,_,rfl,⟨rfl,sQ.pending,sQ.tmps,sQ.params,sQ.assign,sQ.body,sQ.defers,sQ.fn⟩⟩
            obtain ⟨W4,ZS⟩:∃W4,W4=w3.putObj w1.heap.size (.loop {r with state:= .exhausted}):=⟨_,rfl⟩
            have VJ:OK E φ3 (h3.put h1.nx (some (.loop .exhausted fH iU nJ qW UB UC))) W4:=by rw[ZS];exact VJ
            have ZR:Fr φ3 h3 w3 φ3 (h3.put h1.nx (some (.loop .exhausted fH iU nJ qW UB UC))) W4:=by rw[ZS];exact ZR
            have VK:=stepR_endRangeFunc (P:=E.P) (b:=b) (a:={a with defers:=mark++a.defers}) (k:=k) (cs:=cur K s.rc) (run_endLoop hr VI)
            rw[←ZS] at VK
            have jW:=((UO.trans SB).trans N9).trans ZR
            have fS:=Steps.trans (.head (start n st hp) eZ) (.one VK)
            rw[sQ.pending] at fS
            have SH:=Ph.le_trans OO N9.ext
            have Kk:=Ph.le_trans hle N9.ext
            cases fH with
            | none=>
              simp [GP] at hj;subst hj
              exact ⟨φ3,_,_,_,.normal,mM.mono SH,VJ,jW,dV.mono Kk,fS⟩
            | some c=>
              rcases Kj hj with ⟨id,rfl,rfl⟩ | ⟨rfl,rfl⟩
              · exact ⟨φ3,_,_,_,.exit id,mM.mono SH,VJ,jW,dV.mono Kk,k,rfl,fS⟩
              · exact ⟨φ3,_,_,_,.ret,mM.mono SH,VJ,jW,dV.mono Kk,k,fS⟩
          · simp at h
        · simp at h
       ·
        rename_i v h3 hc
        simp at h;obtain ⟨rfl,rfl⟩:=h
        obtain ⟨n,st,hp,dZ⟩:=bS.panic _ _ _ _ _ hc φ2 _ _ vt trivial hl
        obtain ⟨φ3,w3,v',hv,Ys,N9,eZ⟩:=dZ (b.atR {a with defers:=mark++a.defers} (.inRangeFunc w1.heap.size::k)) (cur K s.rc)
        rw[Frame.raise_atR] at eZ
        exact ⟨φ3,w3,_,_,.panic v v' hv,mM.mono (Ph.le_trans OO N9.ext),Ys,(UO.trans SB).trans N9,dV.mono (Ph.le_trans hle N9.ext),_,.head (start n st hp) eZ⟩
       · simp at h
     · simp at h
   · simp at h
 · simp at h
end Go.Ab
end
section
namespace Go.Ab
variable {E:Env}
theorem qx (hE:hS E) {call:aB} (bS:eR E call) {ops:Array Oper}:∀{l:List Oper} {is:List Nat} (_:is.length=l.length) (_:∀(j i:Nat),is[j]? =some i→l[j]? =ops[i]?) {s s':St} {e:gR} (_:gU E call ops l s= .ok e s')
 {φ:Ph} {a:Act} {w:World} {b:Frame} {k:List Item} {K:Bool→List Frame} (_:SR φ s.ts s.ds a) (_:OK E φ s.h w) (_:jF φ b K s.rc),
 mh E φ s.h w b K k (lone (b.atR a (.inRegion ops is::k)) (cur K s.rc) w) e s'
 | [],is,hl,hi,s,s',e,h,φ,a,w,b,k,K,hs,ok,dV=>by
   cases is with
   | cons _ _=>simp at hl
   | nil=>
     simp [gU] at h;obtain ⟨rfl,rfl⟩:=h
     exact ⟨φ,w,a,_,.normal,hs,ok,Fr.refl _ _ _,dV,.one stepR_region_end⟩
 | o::l,is,hl,hi,s,s',e,h,φ,a,w,b,k,K,hs,ok,dV=>by
   cases is with
   | nil=>simp at hl
   | cons i is=>
     have ho:ops[i]? =some o:=by have:=hi 0 i (by simp);simpa using this.symm
     have N7:is.length=l.length:=by simpa using hl
     have Ah:∀(j i':Nat),is[j]? =some i'→l[j]? =ops[i']? :=fun j i' hj=>by have:=hi (j+1) i' (by simpa using hj);simpa using this
     simp only[gU] at h
     have N8:=qq (ops:=ops) hs.ts o
     split at h
     · rename_i hw
       rw[←N8] at hw
       split at h
       · rename_i s1 l9
         obtain ⟨φ1,w1,a1,e1,x1,x2,x3,x4,x5,x6⟩:=(y7 hE bS ho l9 hs ok dV hw (rest:=is) (k:=k)).is
         cases x1
         exact ((qx hE bS N7 Ah h x2 x3 x5).of_steps x6).later x4
       · rename_i cH
         obtain ⟨φ1,w1,a1,e1,x1,x2,x3,x4,x5,x6⟩:=(y7 hE bS ho h hs ok dV hw (rest:=is) (k:=k)).is
         cases x1 with
         | normal=>exact (cH _ h).elim
         | exit=>exact x6.elim
         | ret=>exact x6.elim
         | panic v v' hv=>exact ⟨φ1,w1,a1,_,.panic v v' hv,x2,x3,x4,x5,x6⟩
     · rename_i hw
       have mK:SR φ (cA s.ts o.dst AV.undef) s.ds (a.put o.dst undef):=hs.put o.dst (VR.undef φ)
       refine (qx hE bS N7 Ah h mK ok dV).of_steps (.one ?_)
       have:=stepR_op_skip (P:=E.P) (b:=b) (a:=a) (k:=k) (cs:=cur K s.rc) (w:=w) (ops:=ops) (i:=i) (rest:=is) (by rw[ho];simp;rw[N8];simpa using hw)
       rw[this,ho];rfl
set_option maxHeartbeats 1000000 in
theorem qy (hE:hS E) {call:aB} (bS:eR E call):∀(n:Nat) (c:Code) {s s':St} {e:gR} (_:exec E call n c s= .ok e s')
 {φ:Ph} {a:Act} {w:World} {b:Frame} {k:List Item} {K:Bool→List Frame} (_:SR φ s.ts s.ds a) (_:OK E φ s.h w) (_:jF φ b K s.rc) (_:(E.P.funcs[b.fn]?).isSome=true),
 mh E φ s.h w b K k (lone (b.atR a (.code c::k)) (cur K s.rc) w) e s'∧∀c',c= .loop c'→mh E φ s.h w b K k (lone (b.atR a (.code c':: .inLoop c'::k)) (cur K s.rc) w) e s':=by
 intro n
 induction n with
 | zero=>intro c s s' e h;simp [exec] at h
 | succ n ih2=>
   have ih:∀(c:Code) {s s':St} {e:gR} (_:exec E call n c s= .ok e s')
    {φ:Ph} {a:Act} {w:World} {b:Frame} {k:List Item} {K:Bool→List Frame} (_:SR φ s.ts s.ds a) (_:OK E φ s.h w) (_:jF φ b K s.rc) (_:(E.P.funcs[b.fn]?).isSome=true),
    mh E φ s.h w b K k (lone (b.atR a (.code c::k)) (cur K s.rc) w) e s':=fun c _ _ _ h _ _ _ _ _ _ hs ok dV qY=>(ih2 c h hs ok dV qY).1
   intro c s s' e h φ a w b k K hs ok dV qY
   have Q7:∀c',c= .loop c'→mh E φ s.h w b K k (lone (b.atR a (.code c':: .inLoop c'::k)) (cur K s.rc) w) e s':=by
    rintro c rfl
    simp only[exec] at h
    split at h
    · rename_i s1 h1
      obtain ⟨φ1,w1,a1,e1,x1,x2,x3,x4,x5,x6⟩:=(ih c h1 hs ok dV qY (k:= .inLoop c::k)).is
      cases x1
      exact (((ih2 (.loop c) h x2 x3 x5 qY).2 c rfl).of_steps (Steps.trans x6 (.one stepR_inLoop))).later x4
    · rename_i cH
      obtain ⟨φ1,w1,a1,e1,x1,x2,x3,x4,x5,x6⟩:=(ih c h hs ok dV qY (k:= .inLoop c::k)).is
      refine ⟨φ1,w1,a1,e1,x1,x2,x3,x4,x5,.pass (x:= .inLoop c) (fun _=>rfl) ?_ x6⟩
      cases x1 with
      | normal=>exact (cH _ h).elim
      | exit=>simp
      | ret=>simp
      | panic=>simp
   refine ⟨?_,Q7⟩
   cases c with
   | skip=>simp [exec] at h;obtain ⟨rfl,rfl⟩:=h;exact ⟨φ,w,a,_,.normal,hs,ok,Fr.refl _ _ _,dV,.one stepR_skip⟩
   | label l=>simp [exec] at h;obtain ⟨rfl,rfl⟩:=h;exact ⟨φ,w,a,_,.normal,hs,ok,Fr.refl _ _ _,dV,.one stepR_label⟩
   | ret=>simp [exec] at h;obtain ⟨rfl,rfl⟩:=h;exact ⟨φ,w,a,_,.ret,hs,ok,Fr.refl _ _ _,dV,k,Steps.refl _ _⟩
   | exit id=>simp [exec] at h;obtain ⟨rfl,rfl⟩:=h;exact ⟨φ,w,a,_,.exit id,hs,ok,Fr.refl _ _ _,dV,k,rfl,Steps.refl _ _⟩
   | seq x y=>
     simp only[exec] at h
     split at h
     · rename_i s1 h1
       obtain ⟨φ1,w1,a1,e1,x1,x2,x3,x4,x5,x6⟩:=(ih x h1 hs ok dV qY (k:= .code y::k)).is
       cases x1
       exact ((ih y h x2 x3 x5 qY).of_steps (.head stepR_seq x6)).later x4
     · rename_i cH
       obtain ⟨φ1,w1,a1,e1,x1,x2,x3,x4,x5,x6⟩:=(ih x h hs ok dV qY (k:= .code y::k)).is
       refine ⟨φ1,w1,a1,e1,x1,x2,x3,x4,x5,.of_steps (.one stepR_seq) (.pass (x:= .code y) (fun _=>rfl) ?_ x6)⟩
       cases x1 with
       | normal=>exact (cH _ h).elim
       | exit=>simp
       | ret=>simp
       | panic=>simp
   | cond x y z=>
     simp only[exec] at h
     split at h
     · rename_i hx
       have h1:=jD ok.gl hs.ts hx
       generalize ij:a.eval x=cv at h1
       cases h1
       exact (ih y h hs ok dV qY).of_steps (.one (stepR_cond ij))
     · rename_i hx
       have h1:=jD ok.gl hs.ts hx
       generalize ij:a.eval x=cv at h1
       cases h1
       exact (ih z h hs ok dV qY).of_steps (.one (stepR_cond ij))
     · simp at h
   | block id c=>
     simp only[exec] at h
     split at h
     · rename_i Jw s1 h1
       obtain ⟨φ1,w1,a1,e1,x1,x2,x3,x4,x5,x6⟩:=(ih c h1 hs ok dV qY (k:= .inBlock id::k)).is
       cases x1
       split at h
       · rename_i ZT
         simp at h;obtain ⟨rfl,rfl⟩:=h
         obtain ⟨todo,ht,eZ⟩:=x6
         exact ⟨φ1,w1,a1,_,.normal,x2,x3,x4,x5,.head stepR_block (Steps.trans eZ (.one (stepR_exit (by rw[ht];simp [exitTo,ZT]))))⟩
       · rename_i ZT
         simp at h;obtain ⟨rfl,rfl⟩:=h
         obtain ⟨todo,ht,eZ⟩:=x6
         refine ⟨φ1,w1,a1,_,.exit Jw,x2,x3,x4,x5,todo,?_,.head stepR_block eZ⟩
         have:(id==Jw)=false:=by simp;exact fun h=>ZT h.symm
         rw[ht];simp [exitTo,this]
     · rename_i cH
       obtain ⟨φ1,w1,a1,e1,x1,x2,x3,x4,x5,x6⟩:=(ih c h hs ok dV qY (k:= .inBlock id::k)).is
       cases x1 with
       | normal=>exact ⟨φ1,w1,a1,_,.normal,x2,x3,x4,x5,.head stepR_block (Steps.trans x6 (.one stepR_inBlock))⟩
       | exit Jw=>exact (cH _ _ h).elim
       | ret=>exact ⟨φ1,w1,a1,_,.ret,x2,x3,x4,x5,.of_steps (e:= .ret) (k:=k) (.one stepR_block) x6⟩
       | panic v v' hv=>exact ⟨φ1,w1,a1,_,.panic v v' hv,x2,x3,x4,x5,.of_steps (e:= .panic _) (k:=k) (.one stepR_block) x6⟩
   | loop c=>exact (Q7 c rfl).of_steps (.one stepR_loop)
   | region id ops draw=>
     simp only[exec] at h
     cases draw with
     | false=>
       have l9:=qx hE bS (ops:=ops) (l:=ops.toList) (is:=List.range ops.size) (by simp) (fun j i hj=>by
        have:=List.getElem?_eq_some_iff.1 hj
        obtain ⟨h1,h2⟩:=this
        simp at h1 h2;subst h2;simp) h hs ok dV (b:=b) (k:=k)
       exact l9.of_steps (.one stepR_region)
     | true=>
       obtain ⟨h1,h2,⟨rfl,φ',a',w',x1,x2,x3,x4,x5⟩ | ⟨v,rfl,hp⟩⟩:=CB hE hE.mixed bS h hs ok dV (b:=b) (k:=k) id
       · refine ⟨φ',w',a',_,.normal,⟨x1,by rw[h2,x2];exact hs.ds.mono x4.ext⟩,x3,x4,by rw[h1];exact dV.mono x4.ext,?_⟩
         rw[h1];exact x5
       · obtain ⟨φ',a',w',v',todo,x0,x1,x2,x3,x4,x5⟩:=hp.is
         refine ⟨φ',w',a',_,.panic v v' x0,⟨x1,by rw[h2,x2];exact hs.ds.mono x4.ext⟩,x3,x4,by rw[h1];exact dV.mono x4.ext,todo,?_⟩
         rw[h1];exact x5
   | rangeFunc f ps a1 b1=>
     simp only[exec] at h
     exact AI bS h hs ok dV qY
   | scope c=>
     simp only[exec] at h
     have s1:∀{m},Steps E.P (lone (b.atR a (.code c:: .inScope c::k)) (cur K s.rc) w) m→Steps E.P (lone (b.atR a (.code (.scope c)::k)) (cur K s.rc) w) m:=fun q=> .head (step_lone_go (by simp [stepG,stepG.exec,Frame.atR])) q
     obtain ⟨φ1,w1,a1,e1,x1,x2,x3,x4,x5,x6⟩:=(ih c h hs ok dV qY (k:= .inScope c::k)).is
     cases x1 with
     | normal=>exact ⟨φ1,w1,a1,_,.normal,x2,x3,x4,x5,s1 (Steps.trans x6 (.one (step_lone_go (by simp [stepG,stepG.exec,Frame.atR]))))⟩
     | exit Jw=>exact ⟨φ1,w1,a1,_,.exit Jw,x2,x3,x4,x5,.of_steps (e:= .exit Jw) (k:=k) (s1 (Steps.refl _ _)) (.pass (x:= .inScope c) (fun _=>rfl) (by simp) x6)⟩
     | ret=>exact ⟨φ1,w1,a1,_,.ret,x2,x3,x4,x5,.of_steps (e:= .ret) (k:=k) (s1 (Steps.refl _ _)) (.pass (x:= .inScope c) (fun _=>rfl) (by simp) x6)⟩
     | panic v v' hv=>exact ⟨φ1,w1,a1,_,.panic v v' hv,x2,x3,x4,x5,.of_steps (e:= .panic _) (k:=k) (s1 (Steps.refl _ _)) (.pass (x:= .inScope c) (fun _=>rfl) (by simp) x6)⟩
   | goto l=>simp [exec] at h
   | refuse why=>simp [exec] at h
end Go.Ab
end
section
namespace Go.Ab
variable {E:Env}
theorem CG {φ:Ph} {h:ag} {w:World} (ok:OK E φ h w) {ts:List AV} {tmps:Array Value} (ht:LR φ ts tmps.toList):∀{l:List ResultVar} {vs:List AV} (_:ic E h ts l=some vs),
 ∃lq,LR φ vs lq∧(l.mapM (fun | .tmp t=>pure (tmps.getD t undef) | .cell a t=>do loadVar t (←asAddr (tmps.getD a undef)):ResultVar→Sem Value)).run E.P w= .ok lq w
 | [],vs,h=>by simp [ic] at h;subst h;exact ⟨[],LR.nil φ,rfl⟩
 | r::rest,vs,h=>by
   have dw:∀t,VR φ (ts.getD t AV.undef) (tmps.getD t undef):=fun t=>by
    have:=ht.getD (VR.undef φ) t
    rw[show tmps.getD t undef=tmps.toList.getD t undef by simp [Array.getD_eq_getD_getElem?,List.getD]]
    exact this
   simp only[ic] at h
   split at h
   · simp at h
   · rename_i v hv
     split at h
     · simp at h
     · rename_i vs0 E4
       simp at h;subst h
       obtain ⟨lq,hl,hr⟩:=CG ok ht E4
       cases r with
       | tmp t=>
         simp at hv;subst hv
         refine ⟨tmps.getD t undef::lq,.cons (by simpa using dw t) hl,?_⟩
         simp only[List.mapM_cons,Sem.run_bind,Sem.run_pure,Result.andThen_ok,hr]
       | cell ad t=>
         simp only at hv
         obtain ⟨x',hx,dZ⟩:=yX ok (dw ad) hv
         refine ⟨x'::lq,.cons hx hl,?_⟩
         have hr0:=dZ w rfl
         have:(do loadVar t (←asAddr (tmps.getD ad undef)):Sem Value).run E.P w= .ok x' w:=by
          have It:=dw ad
          unfold bH at hv
          split at hv
          · rename_i i o heq
            rw[heq] at It
            generalize hq:tmps.getD ad undef=q at It hr0
            cases It
            simpa [Instr.loadAt,Instr.sureAddr,asAddr] using hr0
          · simp at hv
         simp only[List.mapM_cons]
         rw[Sem.run_bind,this]
         simp only[Sem.run_bind,Sem.run_pure,Result.andThen_ok,hr]
theorem og {φ:Ph} {h:ag} {w:World} (ok:OK E φ h w) {ts:List AV} {tmps:Array Value} (ht:LR φ ts tmps.toList) {fn:Func} {vs:List AV} (hv:ic E h ts fn.results.toList=some vs):
 ∃v',VR φ (eG vs) v'∧(results fn tmps).run E.P w= .ok v' w:=by
 obtain ⟨lq,hl,hr⟩:=CG ok ht hv
 have hm:(fn.results.mapM (fun | .tmp t=>pure (tmps.getD t undef) | .cell a t=>do loadVar t (←asAddr (tmps.getD a undef)):ResultVar→Sem Value)).run E.P w= .ok lq.toArray w:=by
  rw[Array.mapM_eq_mapM_toList]
  show Sem.run E.P (Functor.map List.toArray (_:Sem (List Value))) w=_
  rw[Sem.run_map]
  refine (congrArg (fun r=>Result.andThen r _) hr).trans ?_
  rfl
 refine ⟨if h:lq.toArray.size=1 then lq.toArray[0] else .tuple lq.toArray,?_,?_⟩
 · cases vs with
   | nil=>rw[hl.dG];exact VR.tuple' (LR.nil φ)
   | cons v vs=>
     obtain ⟨y,ys,rfl,hy,pT⟩:=hl.bQ
     cases vs with
     | nil=>rw[pT.dG];simpa [eG] using hy
     | cons v2 vs2=>
       obtain ⟨y2,Za,rfl,hy2,ZU⟩:=pT.bQ
       have:¬(y::y2::Za).toArray.size=1:=by simp
       rw[dif_neg this]
       exact VR.tuple' (.cons hy (.cons hy2 ZU))
 · unfold results
   rw[Sem.run_bind]
   refine (congrArg (fun r=>Result.andThen r _) hm).trans ?_
   rfl
def bare (f:FuncId) (kind:CallKind):Frame:={fn:=f,tmps:= #[],todo:=[],defers:=[],mode:= .run,kind:=kind,roundOf:=none}
theorem Kl {P:Program} {f:FuncId} {fn:Func} {c:Code} (hf:P.funcs[f]? =some fn) (hb:fn.body=some c) (vs:List Value) (kind:CallKind):
 Frame.enter P f vs.toArray kind=(bare f kind).atR {tmps:=vs.toArray++Array.replicate (fn.ntmps - vs.length) undef,defers:=[]} [.code c]:=by
 simp [Frame.enter,Frame.atR,hf,hb,bare]
theorem oh (hE:hS E) {call:aB} (bS:eR E call) {fuel:Nat} {f:FuncId} {fn:Func} {c:Code} (hf:E.P.funcs[f]? =some fn) (hb:fn.body=some c) {args:List AV} {h:ag} {rc:RC} {e:gR} {s':St}
 (dQ:jQ E call fuel fn c args h rc= .ok e s') {φ:Ph} {w:World} {vs:List Value} (ok:OK E φ h w) (hl:LR φ args vs) {kind:CallKind} {K:Bool→List Frame} (dV:jF φ (bare f kind) K rc):
 mh E φ h w (bare f kind) K [] (lone (Frame.enter E.P f vs.toArray kind) (cur K rc) w) e s':=by
 rw[Kl hf hb]
 refine (qy hE bS fuel c (s:={ts:=args++List.replicate (fn.ntmps - args.length) AV.undef,h,ds:=[],rc}) dQ (a:={tmps:=vs.toArray++Array.replicate (fn.ntmps - vs.length) undef,defers:=[]}) (b:=bare f kind) (k:=[]) ⟨?_,trivial⟩ ok dV (by show (E.P.funcs[f]?).isSome=true;rw[hf];rfl)).1
 have:=hl.append (LR.replicate (VR.undef φ) (fn.ntmps - args.length))
 rw[hl.1] at this
 simpa [hl.1] using this
theorem enters {E:Env} (hE:hS E) {f:FuncId} {fn:Func} {c:Code} (hf:E.P.funcs[f]? =some fn) (hb:fn.body=some c) (vs:Array Value) (w:World):(callFunc f vs).run E.P w= .ok (.enter f vs) w:=by
 have hn:=hE.names f fn hf
 have:(fn.name== "runtime.NumGoroutine")=false:=by rw[beq_eq_false_iff_ne];exact hn
 simp only[callFunc,Sem.run_bind,run_program,Result.andThen_ok,hf,this,Bool.false_eq_true,if_false,hb,Option.isNone_some,Sem.run_pure]
noncomputable def eN (E:Env) (call:aB) (fuel:Nat) (g:FuncId) (as_:List AV) (h:ag) (rc:RC):Option (ag×RC):=match E.P.funcs[g]? with
 | none=>none
 | some fg=>match fg.body with
   | none=>none
   | some bg=>match jQ E call fuel fg bg as_ h rc with
     | .ok .normal s'=>if s'.ds.isEmpty&&(ic E s'.h s'.ts fg.results.toList).isSome then some (s'.h,s'.rc) else none
     | .ok .ret s'=>if s'.ds.isEmpty&&(ic E s'.h s'.ts fg.results.toList).isSome then some (s'.h,s'.rc) else none
     | _=>none
theorem oi {φ:Ph} {ds:List Deferred} (h:QW φ [] ds):ds=[]:=by cases ds with | nil=>rfl | cons _ _=>exact h.elim
def mR (c:Bool→Frame):RC→Frame
 | .done=>{c true with mode:=settle (c true).mode}
 | _=>{c false with mode:=settle (c false).mode}
theorem om (hE:hS E) {call:aB} (bS:eR E call) {fuel:Nat} {g:FuncId} {as_:List AV} {h h':ag} {rc OQ:RC} (hd:eN E call fuel g as_ h rc=some (h',OQ)) {φ:Ph} {w:World} {vs:List Value}
 (ok:OK E φ h w) (hl:LR φ as_ vs) {c:Bool→Frame} {cs:List Frame} (dV:jF φ (bare g .deferred) (fun x=>c x::cs) rc):
 ∃φ' w',OK E φ' h' w'∧Fr φ h w φ' h' w'∧jF φ' (bare g .deferred) (fun x=>c x::cs) OQ∧(callFunc g vs.toArray).run E.P w= .ok (.enter g vs.toArray) w∧
  Steps E.P (lone (Frame.enter E.P g vs.toArray .deferred) (cur (fun x=>c x::cs) rc) w)
   (lone (mR c OQ) cs w'):=by
 unfold eN at hd
 split at hd
 · simp at hd
 rename_i fg hf
 split at hd
 · simp at hd
 rename_i bg hb
 have key:∀(s':St) (e:gR),(e= .normal∨e= .ret)→jQ E call fuel fg bg as_ h rc= .ok e s'→s'.ds.isEmpty=true→(ic E s'.h s'.ts fg.results.toList).isSome=true→s'.h=h'→s'.rc=OQ→
  ∃φ' w',OK E φ' h' w'∧Fr φ h w φ' h' w'∧jF φ' (bare g .deferred) (fun x=>c x::cs) OQ∧(callFunc g vs.toArray).run E.P w= .ok (.enter g vs.toArray) w∧
  Steps E.P (lone (Frame.enter E.P g vs.toArray .deferred) (cur (fun x=>c x::cs) rc) w)
   (lone (mR c OQ) cs w'):=by
  intro s' e he dQ Ft yz hh hr
  subst hh;subst hr
  obtain ⟨φ',w',a',e',x1,x2,x3,x4,x5,x6⟩:=(oh hE bS hf hb dQ ok hl (kind:= .deferred) dV).is
  refine ⟨φ',w',x3,x4,x5,enters hE hf hb _ w,?_⟩
  obtain ⟨lq,ZV⟩:=Option.isSome_iff_exists.1 yz
  obtain ⟨v',_,dZ⟩:=og x3 x2.ts ZV
  have ZW:a'.defers=[]:=oi (by have:=x2.ds;rw[List.isEmpty_iff.1 Ft] at this;exact this)
  have fin:∀todo,step E.P (lone {(bare g .deferred).atR a' todo with mode:= .returning} (cur (fun x=>c x::cs) s'.rc) w')=
   .next (lone (mR c s'.rc) cs w'):=fun todo=>by
   have tQ:({(bare g .deferred).atR a' todo with mode:= .returning}:Frame).going E.P w' (.returned v'):=⟨rfl,ZW,fg,hf,dZ⟩
   have hk:({(bare g .deferred).atR a' todo with mode:= .returning}:Frame).kind= .deferred:=rfl
   cases acd:s'.rc with
   | no=>exact step_going_returned (c:=c false) (cs:=cs) hk tQ
   | fH v=>exact step_going_returned (c:=c false) (cs:=cs) hk tQ
   | done=>exact step_going_returned (c:=c true) (cs:=cs) hk tQ
   | B6 l=>exact step_going_returned (c:=c false) (cs:=cs) hk tQ
  rcases he with rfl | rfl
  · cases x1
    exact Steps.trans x6 (.head (stepR_end rfl) (.one (fin [])))
  · cases x1
    obtain ⟨todo,hs⟩:=x6
    exact Steps.trans hs (.head (stepR_ret rfl) (.one (fin _)))
 split at hd
 · rename_i s' dQ
   split at hd
   · rename_i hc
     simp at hd;obtain ⟨rfl,rfl⟩:=hd
     simp only[Bool.and_eq_true] at hc
     exact key s' .normal (.inl rfl) dQ hc.1 hc.2 rfl rfl
   · simp at hd
 · rename_i s' dQ
   split at hd
   · rename_i hc
     simp at hd;obtain ⟨rfl,rfl⟩:=hd
     simp only[Bool.and_eq_true] at hc
     exact key s' .ret (.inr rfl) dQ hc.1 hc.2 rfl rfl
   · simp at hd
 · simp at hd
theorem gM (hE:hS E) {call:aB} (bS:eR E call) {fuel:Nat}:∀(ds:List kb) {p p':Option AV} {h h':ag} (_:bT (eN E call fuel) ds p h=some (p',h')) {φ:Ph} {w:World} {fr:Frame} {cs:List Frame}
 (_:OK E φ h w) (_:QW φ ds fr.defers) (_:(p=none∧fr.mode= .returning)∨∃v v',p=some v∧VR φ v v'∧fr.mode= .panicking [{v:=v',recovered:=false}]),
 ∃φ' w' m',OK E φ' h' w'∧Fr φ h w φ' h' w'∧((p'=none∧m'= .returning)∨∃v v',p'=some v∧VR φ' v v'∧m'= .panicking [{v:=v',recovered:=false}])∧
  Steps E.P (lone fr cs w) (lone {fr with defers:=[],mode:=m'} cs w')
 | [],p,p',h,h',hu,φ,w,fr,cs,ok,Ft,hp=>by
   simp [bT] at hu;obtain ⟨rfl,rfl⟩:=hu
   have:=oi Ft
   refine ⟨φ,w,fr.mode,ok,Fr.refl _ _ _,?_,?_⟩
   · exact hp
   · rw[←this];exact Steps.refl _ _
 | .UA r::ds,p,p',h,h',hu,φ,w,fr,cs,ok,Ft,hp=>by
   cases SI:fr.defers with
   | nil=>rw[SI] at Ft;exact Ft.elim
   | cons d' sL=>
   rw[SI] at Ft
   obtain ⟨⟨l,hl,OS⟩,Km⟩:=Ft
   have Kn:fr.mode≠ .run:=by
    rcases hp with ⟨_,hm⟩ | ⟨v,v',_,_,hm⟩<;>rw[hm]<;>simp
   simp only[bT] at hu
   split at hu
   · rename_i hg
     obtain ⟨_,hb⟩:=ok.live _ _ _ hg hl
     obtain ⟨CA,f1⟩:=ok.shut hg rfl hl (.deferred none)
     have JC:=step_collected (P:=E.P) (cs:=cs) Kn SI OS (run_takeDeferred hb)
     obtain ⟨φ2,w2,m2,vt,f2,Ko,Fu⟩:=gM hE bS ds hu (fr:={fr with defers:=[]++sL}) (cs:=cs) CA (by simpa using Km) hp
     exact ⟨φ2,w2,m2,vt,f1.trans f2,Ko,.head JC Fu⟩
   · simp at hu
 | .call df aby::ds,p,p',h,h',hu,φ,w,fr,cs,ok,Ft,hp=>by
   cases SI:fr.defers with
   | nil=>rw[SI] at Ft;exact Ft.elim
   | cons d' sL=>
   rw[SI] at Ft
   obtain ⟨⟨cap,OS,vf⟩,Km⟩:=Ft
   have Kn:fr.mode≠ .run:=by
    rcases hp with ⟨_,hm⟩ | ⟨v,v',_,_,hm⟩<;>rw[hm]<;>simp
   have hinv:∀(JD:(callFunc df (d'.args++cap).toList.toArray).run E.P w= .ok (.enter df (d'.args++cap).toList.toArray) w),(invoke d'.target d'.args).run E.P w= .ok (.enter df (d'.args++cap).toList.toArray) w:=fun JD=>by
    have e:(d'.args++cap).toList.toArray=d'.args++cap:=Array.toArray_toList ..
    rw[e] at JD ⊢
    rw[OS];exact JD
   have JC:∀(JD:(callFunc df (d'.args++cap).toList.toArray).run E.P w= .ok (.enter df (d'.args++cap).toList.toArray) w),step E.P (lone fr cs w)= .next (lone (Frame.enter E.P df (d'.args++cap).toList.toArray .deferred) ({fr with defers:=sL}::cs) w):=fun JD=>step_defer Kn SI OS (hinv JD)
   cases p with
   | none=>
     simp only[bT] at hu
     split at hu
     · rename_i h1 rc1 VL
       have hm:fr.mode= .returning:=by
        rcases hp with ⟨_,hm⟩ | ⟨v,v',e,_,_⟩
        · exact hm
        · simp at e
       obtain ⟨φ1,w1,CA,f1,_,JD,eZ⟩:=om hE bS VL ok vf (c:=fun _=>{fr with defers:=sL}) (cs:=cs) ⟨rfl,fun EL hk=>by simp [tryRecover,show EL.kind= .deferred from hk,hm]⟩
       have nN:mR (fun _=>{fr with defers:=sL}) rc1={fr with defers:=sL}:=by
        cases rc1<;>simp [mR,hm,settle]
       rw[nN] at eZ
       obtain ⟨φ2,w2,m2,vt,f2,Ko,Fu⟩:=gM hE bS ds hu (fr:={fr with defers:=sL}) (cs:=cs) CA (Km.mono f1.ext) (.inl ⟨rfl,hm⟩)
       exact ⟨φ2,w2,m2,vt,f1.trans f2,Ko,.head (JC JD) (Steps.trans eZ Fu)⟩
     · simp at hu
   | some v=>
     obtain ⟨v',hv,hm⟩:∃v',VR φ v v'∧fr.mode= .panicking [{v:=v',recovered:=false}]:=by
      rcases hp with ⟨e,_⟩ | ⟨v1,v',e,hv,hm⟩
      · simp at e
      · simp at e;subst e;exact ⟨v',hv,hm⟩
     have dV:jF φ (bare df .deferred) (fun x=>(if x then {fr with defers:=sL,mode:= .panicking [{v:=v',recovered:=true}]} else {fr with defers:=sL})::cs) (.fH v):=
      ⟨rfl,⟨v',hv,fun EL hk=>by simp [tryRecover,show EL.kind= .deferred from hk,hm]⟩,fun EL hk=>by simp [tryRecover,show EL.kind= .deferred from hk]⟩
     simp only[bT] at hu
     split at hu
     · rename_i h1 v1 VL
       obtain ⟨φ1,w1,CA,f1,_,JD,eZ⟩:=om hE bS VL ok vf (c:=fun x=>if x then {fr with defers:=sL,mode:= .panicking [{v:=v',recovered:=true}]} else {fr with defers:=sL}) (cs:=cs) dV
       have nN:mR (fun x=>if x then {fr with defers:=sL,mode:= .panicking [{v:=v',recovered:=true}]} else {fr with defers:=sL}) (.fH v1)={fr with defers:=sL}:=by simp [mR,hm,settle]
       rw[nN] at eZ
       simp only[Bool.false_eq_true,if_false,cur] at eZ
       obtain ⟨φ2,w2,m2,vt,f2,Ko,Fu⟩:=gM hE bS ds hu (fr:={fr with defers:=sL}) (cs:=cs) CA (Km.mono f1.ext) (.inr ⟨v,v',rfl,hv.mono f1.ext,hm⟩)
       exact ⟨φ2,w2,m2,vt,f1.trans f2,Ko,.head (JC JD) (Steps.trans eZ Fu)⟩
     · rename_i h1 VL
       obtain ⟨φ1,w1,CA,f1,_,JD,eZ⟩:=om hE bS VL ok vf (c:=fun x=>if x then {fr with defers:=sL,mode:= .panicking [{v:=v',recovered:=true}]} else {fr with defers:=sL}) (cs:=cs) dV
       have nN:mR (fun x=>if x then {fr with defers:=sL,mode:= .panicking [{v:=v',recovered:=true}]} else {fr with defers:=sL}) .done={fr with defers:=sL,mode:= .returning}:=by simp [mR,settle]
       rw[nN] at eZ
       simp only[Bool.false_eq_true,if_false,cur] at eZ
       obtain ⟨φ2,w2,m2,vt,f2,Ko,Fu⟩:=gM hE bS ds hu (fr:={fr with defers:=sL,mode:= .returning}) (cs:=cs) CA (Km.mono f1.ext) (.inl ⟨rfl,rfl⟩)
       exact ⟨φ2,w2,m2,vt,f1.trans f2,Ko,.head (JC JD) (Steps.trans eZ Fu)⟩
     · simp at hu
theorem CH (hE:hS E) (fuel d:Nat) (ih:eR E (dX E d fuel)):(∀f args h v h',dX E (d+1) fuel (.fn f) args h= .ret v h'→fI E f args h v h')∧(∀f args h v h',dX E (d+1) fuel (.fn f) args h= .panic v h'→GV E f args h v h'):=by
 have key:∀(f:FuncId) (args:List AV) (h:ag) (out:fR),dX E (d+1) fuel (.fn f) args h=out→(∀why q,out≠ .fail why q)→
  ∃fn c e s p,E.P.funcs[f]? =some fn∧fn.body=some c∧jQ E (dX E d fuel) fuel fn c args h .no= .ok e s∧
   ((p=none∧(e= .normal∨e= .ret))∨∃v,p=some v∧e= .panic v)∧
   ((∃v h',out= .panic v h'∧bT (eN E (dX E d fuel) fuel) s.ds p s.h=some (some v,h'))∨
    ∃vs h',out= .ret (eG vs) h'∧bT (eN E (dX E d fuel) fuel) s.ds p s.h=some (none,h')∧ic E h' s.ts fn.results.toList=some vs):=by
  intro f args h out e cH
  simp only[dX] at e
  split at e
  · exact absurd e.symm (cH _ _)
  rename_i fn hf
  split at e
  · exact absurd e.symm (cH _ _)
  rename_i c hb
  have fin:∀(p:Option AV) (s:St),(match bT (eN E (dX E d fuel) fuel) s.ds p s.h with
   | none=>fR.fail "unwind" none
   | some (some v,h')=> .panic v h'
   | some (none,h')=>match ic E h' s.ts fn.results.toList with
     | some vs=> .ret (eG vs) h'
     | none=> .fail "results" none)=out→
   ((∃v h',out= .panic v h'∧bT (eN E (dX E d fuel) fuel) s.ds p s.h=some (some v,h'))∨
    ∃vs h',out= .ret (eG vs) h'∧bT (eN E (dX E d fuel) fuel) s.ds p s.h=some (none,h')∧ic E h' s.ts fn.results.toList=some vs):=by
   intro p s hm
   split at hm
   · exact absurd hm.symm (cH _ _)
   · rename_i v h' hu;exact .inl ⟨v,h',hm.symm,hu⟩
   · rename_i h' hu
     split at hm
     · rename_i vs hv;exact .inr ⟨vs,h',hm.symm,hu,hv⟩
     · exact absurd hm.symm (cH _ _)
  split at e
  · rename_i s dQ;exact ⟨fn,c,_,s,none,hf,hb,dQ,.inl ⟨rfl,.inl rfl⟩,fin none s e⟩
  · rename_i s dQ;exact ⟨fn,c,_,s,none,hf,hb,dQ,.inl ⟨rfl,.inr rfl⟩,fin none s e⟩
  · rename_i v s dQ;exact ⟨fn,c,_,s,some v,hf,hb,dQ,.inr ⟨v,rfl,rfl⟩,fin (some v) s e⟩
  · exact absurd e.symm (cH _ _)
  · exact absurd e.symm (cH _ _)
 have run:∀(f:FuncId) (fn:Func) (c:Code) (args:List AV) (h:ag) (e:gR) (s:St) (p p':Option AV) (h':ag),E.P.funcs[f]? =some fn→fn.body=some c→jQ E (dX E d fuel) fuel fn c args h .no= .ok e s→
  ((p=none∧(e= .normal∨e= .ret))∨∃v,p=some v∧e= .panic v)→bT (eN E (dX E d fuel) fuel) s.ds p s.h=some (p',h')→
  ∀(φ:Ph) (w:World) (vs:List Value),OK E φ h w→LR φ args vs→∀cs,∃φ' w' m' tmps todo,OK E φ' h' w'∧Fr φ h w φ' h' w'∧LR φ' s.ts tmps.toList∧
   ((p'=none∧m'= .returning)∨∃v v',p'=some v∧VR φ' v v'∧m'= .panicking [{v:=v',recovered:=false}])∧
   Steps E.P (lone (Frame.enter E.P f vs.toArray .normal) cs w) (lone {(bare f .normal).atR {tmps,defers:=[]} todo with mode:=m'} cs w'):=by
  intro f fn c args h e s p p' h' hf hb dQ hp hu φ w vs ok hl cs
  obtain ⟨φ1,w1,a1,e1,x1,x2,x3,x4,x5,x6⟩:=(oh hE ih hf hb dQ ok hl (kind:= .normal) (K:=fun _=>cs) ⟨rfl,fun fr hk=>by simp [tryRecover,show fr.kind= .normal from hk]⟩).is
  have CI:cur (fun _=>cs) s.rc=cs:=by cases s.rc<;>rfl
  have Kp:cur (fun _=>cs) RC.no=cs:=rfl
  rw[CI] at x6
  rw[Kp] at x6
  have hm:∃todo m,((p=none∧m= .returning)∨∃v v',p=some v∧VR φ1 v v'∧m= .panicking [{v:=v',recovered:=false}])∧
   Steps E.P (lone (Frame.enter E.P f vs.toArray .normal) cs w) (lone {(bare f .normal).atR a1 todo with mode:=m} cs w1):=by
   rcases hp with ⟨rfl,rfl | rfl⟩ | ⟨v,rfl,rfl⟩
   · cases x1;exact ⟨[],.returning,.inl ⟨rfl,rfl⟩,Steps.trans x6 (.one (stepR_end rfl))⟩
   · cases x1;obtain ⟨todo,hs⟩:=x6;exact ⟨_,.returning,.inl ⟨rfl,rfl⟩,Steps.trans hs (.one (stepR_ret rfl))⟩
   · cases x1 with
     | panic _ v' hv=>obtain ⟨todo,hs⟩:=x6;exact ⟨todo,_,.inr ⟨v,v',rfl,hv,rfl⟩,hs⟩
  obtain ⟨todo,m,ZX,mM⟩:=hm
  obtain ⟨φ2,w2,m2,vt,f2,Ko,ZY⟩:=gM hE ih s.ds hu (fr:={(bare f .normal).atR a1 todo with mode:=m}) (cs:=cs) x3 x2.ds (by
   rcases ZX with ⟨e,em⟩ | ⟨v,v',e,hv,em⟩
   · exact .inl ⟨e,em⟩
   · exact .inr ⟨v,v',e,hv,em⟩)
  exact ⟨φ2,w2,m2,a1.tmps,todo,vt,x4.trans f2,x2.ts.mono f2.ext,Ko,Steps.trans mM ZY⟩
 refine ⟨fun f args h v h' e=>?_,fun f args h v h' e=>?_⟩
 · obtain ⟨fn,c,e1,s,p,hf,hb,dQ,hp,lp⟩:=key f args h _ e (by simp)
   rcases lp with ⟨v1,h1,he,_⟩ | ⟨Z0,h1,he,hu,yz⟩
   · simp at he
   · simp at he;obtain ⟨rfl,rfl⟩:=he
     intro φ w vs ok hl
     refine ⟨enters hE hf hb _ w,fun cs=>?_⟩
     obtain ⟨φ',w',m',tmps,todo,nC,fr,ht,hm,hs⟩:=run f fn c args h e1 s p none h' hf hb dQ hp hu φ w vs ok hl cs
     obtain ⟨v',hv,dZ⟩:=og nC ht yz
     rcases hm with ⟨_,rfl⟩ | ⟨v,v'',e,_⟩
     · exact ⟨φ',w',v',_,hv,nC,fr,hs,rfl,rfl,rfl,rfl,fn,hf,dZ⟩
     · simp at e
 · obtain ⟨fn,c,e1,s,p,hf,hb,dQ,hp,lp⟩:=key f args h _ e (by simp)
   rcases lp with ⟨v1,h1,he,hu⟩ | ⟨Z0,h1,he,_⟩
   · simp at he;obtain ⟨rfl,rfl⟩:=he
     intro φ w vs ok hl
     refine ⟨enters hE hf hb _ w,fun cs=>?_⟩
     obtain ⟨φ',w',m',tmps,todo,nC,fr,ht,hm,hs⟩:=run f fn c args h e1 s p (some v) h' hf hb dQ hp hu φ w vs ok hl cs
     rcases hm with ⟨e,_⟩ | ⟨v2,v',e,hv,rfl⟩
     · simp at e
     · simp at e;subst e
       exact ⟨φ',w',v',_,hv,nC,fr,hs,rfl,rfl,rfl,fn,hf⟩
   · simp at he
theorem qz {l:Nat} {jump:Option Code} {s:St} {v:AV} {h':ag} (he:uW l jump s= .ret v h') {φ:Ph} {w:World} (ok:OK E φ s.h w) {ll:Loc} (hl:φ l=some ll):
 ∃w',v= .bool jump.isNone∧OK E φ h' w'∧Fr φ s.h w φ h' w'∧(Instr.endRound ll.cG jump).run E.P w= .ok (.bool jump.isNone) w':=by
 unfold uW at he
 split at he
 · rename_i st pd ts ps as_ bd dn hg
   simp only[fR.ret.injEq] at he;obtain ⟨rfl,rfl⟩:=he
   obtain ⟨_,r,hr,sQ⟩:=ok.live _ _ _ hg hl
   obtain ⟨CA,f1⟩:=ok.SG (o':= .loop (if jump.isNone then .ready else .done) jump ts ps as_ bd dn) hg rfl hl (O:= .loop {r with state:=if jump.isNone then .ready else .done,pending:=jump})
    ⟨by have:=ok.live _ _ _ hg hl;exact this.1,_,rfl,⟨rfl,rfl,sQ.tmps,sQ.params,sQ.assign,sQ.body,sQ.defers,sQ.fn⟩⟩
   exact ⟨_,rfl,CA,f1,run_endRound jump hr⟩
 · simp at he
theorem CJ {φ:Ph}:∀{ps:List Tmp} {args:List AV} {vs:List Value} (_:LR φ args vs) {ts:List AV} {tmps:Array Value} (_:LR φ ts tmps.toList),
 LR φ ((ps.zip args).foldl (fun ts x=>ts.set x.1 x.2) ts) (((ps.zip vs).foldl (fun (tmps:Array Value) (x:Tmp×Value)=>tmps.setIfInBounds x.1 x.2) tmps).toList)
 | [],_,_,_,_,_,ht=>by simpa using ht
 | p::ps,[],vs,hl,ts,tmps,ht=>by rw[hl.dG];simpa using ht
 | p::ps,x::xs,vs,hl,ts,tmps,ht=>by
   obtain ⟨y,ys,rfl,hy,pT⟩:=hl.bQ
   simp only[List.zip_cons_cons,List.foldl_cons]
   exact CJ pT (by simpa using ht.set hy p)
theorem vx (hE:hS E) {call:aB} (bS:eR E call) {fuel l:Nat} {args:List AV} {h:ag} {out:fR} (ho:ql E call fuel l args h=out) (cH:∀why q,out≠ .fail why q)
 {φ:Ph} {w:World} {vs:List Value} (ok:OK E φ h w) {ll:Loc} (hφ:φ l=some ll) (hl:LR φ args vs):
 ∃f tmps assign body,(Instr.yield ll.cG vs.toArray).run E.P w= .ok (.round ll.cG f tmps assign body) w∧∀c cs,
  (∀v h',out= .ret v h'→∃φ' w' v',VR φ' v v'∧OK E φ' h' w'∧Fr φ h w φ' h' w'∧Steps E.P (lone (Frame.round ll.cG f tmps assign body .normal) (c::cs) w) (lone (c.finish v') cs w'))∧
  (∀v h',out= .panic v h'→∃φ' w' v',VR φ' v v'∧OK E φ' h' w'∧Fr φ h w φ' h' w'∧Steps E.P (lone (Frame.round ll.cG f tmps assign body .normal) (c::cs) w) (lone (c.raise [{v:=v',recovered:=false}]) cs w')):=by
 unfold ql at ho
 split at ho
 · rename_i st pd ts ps as_ bd dn hg
   split at ho
   · rename_i hlen
     split at ho
     · rename_i s1 hx1
       split at ho
       · rename_i pd2 Sg QR Om Sh Si Z1
         obtain ⟨vy,r,hr,sQ⟩:=ok.live _ _ _ hg hφ
         have yf:vs.toArray.size=r.params.size:=by
          have h1:=congrArg List.length sQ.params
          have h2:=hl.1
          simp at h1 ⊢;omega
         refine ⟨r.fn,_,r.assign,r.body,run_yield hr yf,fun c cs=>?_⟩
         have VM:LR φ ((ps.zip args).foldl (fun ts x=>ts.set x.1 x.2) ts) ((r.params.zip vs.toArray).foldl (fun tmps (t,a)=>tmps.setIfInBounds t a) r.tmps).toList:=by
          have:=CJ (ps:=ps) hl sQ.tmps
          rw[←Array.foldl_toList,Array.toList_zip,sQ.params]
          exact this
         generalize htm:(r.params.zip vs.toArray).foldl (fun tmps (t,a)=>tmps.setIfInBounds t a) r.tmps=G6 at VM
         let b:Frame:={fn:=r.fn,tmps:= #[],todo:=[],defers:=[],mode:= .run,kind:= .normal,roundOf:=some ll.cG}
         have hb:b.roundOf=some ll.cG:=rfl
         have hk:b.kind= .normal:=rfl
         have sM:Frame.round ll.cG r.fn G6 r.assign r.body .normal=b.atR {tmps:=G6,defers:=[]} [.code r.assign,.beginRound,.code r.body]:=rfl
         rw[sQ.assign,sQ.body] at sM ⊢
         rw[sM]
         have CI:∀rc,cur (fun _=>c::cs) rc=c::cs:=fun rc=>by cases rc<;>rfl
         obtain ⟨φ1,w1,a1,e1,x1,x2,x3,x4,x5,x6⟩:=(qy hE bS fuel as_ hx1 (a:={tmps:=G6,defers:=[]}) (b:=b) (k:=[.beginRound,.code bd]) (K:=fun _=>c::cs) ⟨VM,trivial⟩ ok ⟨ll,hφ,rfl⟩ sQ.fn).1.is
         cases x1
         rw[CI,CI] at x6
         have Z2:=x4.ext _ _ hφ
         obtain ⟨VN,r1,Vu,CK⟩:=x3.live _ _ _ Z1 Z2
         obtain ⟨vt,f2⟩:=x3.SG (o':= .loop .busy pd2 Sg QR Om Sh Si) Z1 rfl Z2 (O:= .loop {r1 with state:= .busy})
          ⟨VN,_,rfl,⟨rfl,CK.pending,CK.tmps,CK.params,CK.assign,CK.body,CK.defers,CK.fn⟩⟩
         have Z3:=stepR_beginRound (P:=E.P) (b:=b) (a:=a1) (k:=[.code bd]) (cs:=c::cs) hb (run_beginRound Vu CK.state)
         have lx:=Steps.trans x6 (.one Z3)
         have body:∀(e:gR) (s2:St),exec E call fuel bd {s1 with h:=s1.h.put l (some (.loop .busy pd2 Sg QR Om Sh Si))}= .ok e s2→
          ∃φ' w' a' e',Sw φ' e e'∧SR φ' s2.ts s2.ds a'∧OK E φ' s2.h w'∧Fr φ h w φ' s2.h w'∧φ' l=some ll∧CD E.P (lone (b.atR {tmps:=G6,defers:=[]} [.code as_,.beginRound,.code bd]) (c::cs) w) b [] (c::cs) e' a' w':=by
          intro e s2 OT
          obtain ⟨φ3,w3,a3,e3,y1,y2,y3,y4,y5,y6⟩:=(qy hE bS fuel bd OT (a:=a1) (b:=b) (k:=[]) (K:=fun _=>c::cs) x2 vt x5 sQ.fn).1.is
          rw[CI,CI] at y6
          exact ⟨φ3,w3,a3,e3,y1,y2,y3,(x4.trans f2).trans y4,y4.ext _ _ Z2,.of_steps lx y6⟩
         split at ho
         · rename_i s2 OT
           obtain ⟨φ3,w3,a3,e3,y1,y2,y3,y4,OP,y6⟩:=body _ _ OT
           cases y1
           refine ⟨fun v h' e=>?_,fun v h' e=>?_⟩
           · obtain ⟨w4,rfl,z1,z2,z3⟩:=qz (ho.trans e) y3 OP
             exact ⟨φ3,w4,_,.bool _,z1,y4.trans z2,Steps.trans y6 (.one (stepR_round_end hb hk z3))⟩
           · rw[e] at ho;unfold uW at ho;split at ho<;>simp at ho
         · rename_i s2 OT
           obtain ⟨φ3,w3,a3,e3,y1,y2,y3,y4,OP,y6⟩:=body _ _ OT
           cases y1
           refine ⟨fun v h' e=>?_,fun v h' e=>?_⟩
           · obtain ⟨w4,rfl,z1,z2,z3⟩:=qz (ho.trans e) y3 OP
             obtain ⟨todo,hs⟩:=y6
             exact ⟨φ3,w4,_,.bool _,z1,y4.trans z2,Steps.trans hs (.one (stepR_round_ret hb hk z3))⟩
           · rw[e] at ho;unfold uW at ho;split at ho<;>simp at ho
         · rename_i id s2 OT
           obtain ⟨φ3,w3,a3,e3,y1,y2,y3,y4,OP,y6⟩:=body _ _ OT
           cases y1
           refine ⟨fun v h' e=>?_,fun v h' e=>?_⟩
           · obtain ⟨w4,rfl,z1,z2,z3⟩:=qz (ho.trans e) y3 OP
             obtain ⟨todo,ht,hs⟩:=y6
             exact ⟨φ3,w4,_,.bool _,z1,y4.trans z2,Steps.trans hs (.one (stepR_round_exit hb hk ht z3))⟩
           · rw[e] at ho;unfold uW at ho;split at ho<;>simp at ho
         · rename_i v2 s2 OT
           obtain ⟨φ3,w3,a3,e3,y1,y2,y3,y4,OP,y6⟩:=body _ _ OT
           split at ho
           · rename_i Ft
             refine ⟨fun v h' e=>by rw[e] at ho;simp at ho,fun v h' e=>?_⟩
             rw[e] at ho;simp at ho;obtain ⟨rfl,rfl⟩:=ho
             cases y1 with
             | panic _ v' hv=>
               obtain ⟨todo,hs⟩:=y6
               have ZW:a3.defers=[]:=oi (by have:=y2.ds;rw[List.isEmpty_iff.1 Ft] at this;exact this)
               obtain ⟨fn,qY⟩:=Option.isSome_iff_exists.1 sQ.fn
               exact ⟨φ3,w3,v',hv,y3,y4,Steps.trans hs (.one (step_leave_panicked ⟨rfl,ZW,fn,qY⟩))⟩
           · exact absurd ho.symm (cH _ _)
         · exact absurd ho.symm (cH _ _)
       · exact absurd ho.symm (cH _ _)
     · exact absurd ho.symm (cH _ _)
     · exact absurd ho.symm (cH _ _)
   · exact absurd ho.symm (cH _ _)
 · exact absurd ho.symm (cH _ _)
theorem tV (hE:hS E) (fuel:Nat):∀d,eR E (dX E d fuel)
 | 0=>⟨fun f args h v h' e=>by simp [dX] at e,fun f args h v h' e=>by simp [dX] at e⟩
 | d+1=>by
   have ih:=tV hE fuel d
   obtain ⟨k1,k2⟩:=CH hE fuel d ih
   refine ⟨fun F args h v h' e=>?_,fun F args h v h' e=>?_⟩
   · cases F with
     | fn f=>exact (k1 f args h v h' e).any
     | tK l=>
       simp only[dX] at e
       intro φ w vs ok hf hl
       obtain ⟨ll,hφ⟩:=hf
       obtain ⟨f,tmps,assign,body,hy,dZ⟩:=vx hE ih e (by simp) ok hφ hl
       exact ⟨_,_,.tK l ll hφ vs f tmps assign body hy,fun c cs=>(dZ c cs).1 v h' rfl⟩
   · cases F with
     | fn f=>exact (k2 f args h v h' e).any
     | tK l=>
       simp only[dX] at e
       intro φ w vs ok hf hl
       obtain ⟨ll,hφ⟩:=hf
       obtain ⟨f,tmps,assign,body,hy,dZ⟩:=vx hE ih e (by simp) ok hφ hl
       exact ⟨_,_,.tK l ll hφ vs f tmps assign body hy,fun c cs=>(dZ c cs).2 v h' rfl⟩
end Go.Ab
end
section
namespace Go.Ab.Fa
structure Acc (T:Type) where
 f:T→AV
structure VO (T:Type) where
 f:AV→T→T
structure RF where
 T:Type
 N:Nat
 get:Nat→Acc T
 set:Nat→VO T
 z:T
 Kq:∀i,i<N→(get i).f z=AV.undef
 rC:∀i,i<N→∀v r,(get i).f ((set i).f v r)=v
 pC:∀i j,i<N→j<N→i≠j→∀v r,(get j).f ((set i).f v r)=(get j).f r
def OU (i:Nat):Acc (P8 (P8 AV)):=s8 (i/8) fun p=>s8 (i%8) fun q=>⟨fun r=>q (p r)⟩
noncomputable def mi (i:Nat):VO (P8 (P8 AV)):=e8 (i/8) fun p=>e8 (i%8) fun q=>⟨fun v r=>p (q fun _=>v) r⟩
noncomputable def Yt:RF where
 T:=P8 (P8 AV)
 N:=64
 get:=OU
 set:=mi
 z:=P8.all (P8.all AV.undef)
 Kq i h:=by simp only[OU,pY,uM]
 rC i h v r:=by simp only[OU,mi,pY,tJ,bU]
 pC i j hi hj h v r:=by
  simp only[OU,mi,pY,tJ]
  by_cases h1:i/8=j/8
  · rw[h1,bU,cE (by omega) (by omega) (by omega)]
  · rw[cE (by omega) (by omega) h1]
def OV (i:Nat):Acc (P8 (P8 (P8 AV))):=s8 (i/64) fun o=>s8 (i/8%8) fun p=>s8 (i%8) fun q=>⟨fun r=>q (p (o r))⟩
noncomputable def SJ (i:Nat):VO (P8 (P8 (P8 AV))):=e8 (i/64) fun o=>e8 (i/8%8) fun p=>e8 (i%8) fun q=>⟨fun v r=>o (p (q fun _=>v)) r⟩
noncomputable def Yu:RF where
 T:=P8 (P8 (P8 AV))
 N:=512
 get:=OV
 set:=SJ
 z:=P8.all (P8.all (P8.all AV.undef))
 Kq i h:=by simp only[OV,pY,uM]
 rC i h v r:=by simp only[OV,SJ,pY,tJ,bU]
 pC i j hi hj h v r:=by
  simp only[OV,SJ,pY,tJ]
  by_cases h1:i/64=j/64
  · rw[h1,bU]
    by_cases h2:i/8%8=j/8%8
    · rw[h2,bU,cE (by omega) (by omega) (by omega)]
    · rw[cE (by omega) (by omega) h2]
  · rw[cE (by omega) (by omega) h1]
section
variable (F:RF) (n:Nat)
def cX (r:F.T):List AV:=(List.range n).map fun i=>(F.get i).f r
theorem fj (r:F.T):(cX F n r).length=n:=by simp [cX]
theorem pD (r:F.T) {i:Nat} (h:i<n):(cX F n r)[i]? =some ((F.get i).f r):=by simp [cX,h]
theorem CL (r:F.T) (i:Nat):(cX F n r).getD i AV.undef=if i<n then (F.get i).f r else AV.undef:=by
 rw[List.getD_eq_getElem?_getD]
 split
 · rename_i h;rw[pD F n r h];rfl
 · rw[List.getElem?_eq_none (by rw[fj];omega)];rfl
theorem OW (hn:n≤F.N) (r:F.T) {i:Nat} (h:i<n) (v:AV):(cX F n r).set i v=cX F n ((F.set i).f v r):=by
 apply List.ext_getElem?
 intro j
 rw[List.getElem?_set]
 by_cases hj:j<n
 · rw[pD F n _ hj,pD F n _ hj,fj]
   by_cases e:i=j
   · subst e;simp [F.rC i (by omega),h]
   · rw[if_neg e,F.pC i j (by omega) (by omega) e]
 · rw[List.getElem?_eq_none (l:=cX F n r) (by rw[fj];omega),List.getElem?_eq_none (l:=cX F n _) (by rw[fj];omega),fj]
   rw[if_neg (by omega)]
noncomputable def JE:List AV→F.T→Nat→F.T:=fun l=>List.rec (motive:=fun _=>F.T→Nat→F.T) (fun r _=>r) (fun v _ ih r i=>ih ((F.set i).f v r) (Nat.add i 1)) l
theorem OX (r:F.T) (i:Nat):JE F [] r i=r:=rfl
theorem Kr (v:AV) (l:List AV) (r:F.T) (i:Nat):JE F (v::l) r i=JE F l ((F.set i).f v r) (i+1):=rfl
theorem G7 (hn:n≤F.N):∀(l:List AV) (r:F.T) (i:Nat),i+l.length≤n→∀j,j<n→(F.get j).f (JE F l r i)=if i≤j∧j<i+l.length then l.getD (j - i) AV.undef else (F.get j).f r
 | [],r,i,_,j,hj=>by rw[OX,if_neg (by rw[List.length_nil];omega)]
 | v::l,r,i,h,j,hj=>by
   simp only[List.length_cons] at h
   rw[Kr,G7 hn l _ (i+1) (by omega) j hj]
   simp only[List.length_cons]
   by_cases h1:i+1≤j∧j<i+1+l.length
   · rw[if_pos h1,if_pos (by omega)]
     obtain ⟨m,hm⟩:∃m,j - i=m+1:=⟨j - i - 1,by omega⟩
     rw[hm,show j -(i+1)=m by omega,List.getD_cons_succ]
   · rw[if_neg h1]
     by_cases h2:i=j
     · subst h2;rw[F.rC i (by omega),if_pos (by omega)];simp
     · rw[F.pC i j (by omega) (by omega) h2,if_neg (by omega)]
theorem G8 (hn:n≤F.N) (l:List AV) (h:l.length≤n):cX F n (JE F l F.z 0)=l++List.replicate (n - l.length) AV.undef:=by
 apply List.ext_getElem?
 intro j
 by_cases hj:j<n
 · rw[pD F n _ hj,G7 F n hn l F.z 0 (by omega) j hj]
   by_cases h1:j<l.length
   · rw[if_pos (by omega),List.getElem?_append_left h1,Nat.sub_zero,List.getD_eq_getElem?_getD,List.getElem?_eq_getElem h1];rfl
   · rw[if_neg (by omega),List.getElem?_append_right (by omega),F.Kq j (by omega),List.getElem?_replicate,if_pos (by omega)]
 · rw[List.getElem?_eq_none (by rw[fj];omega),List.getElem?_eq_none (by simp;omega)]
end
end Go.Ab.Fa
end
section
namespace Go.Ab.Fa
section
variable {R:Type}
noncomputable def gd (f:Bool→R) (d:R) (v:AV):R:=
 AV.rec (motive_1:=fun _=>R) (motive_2:=fun _=>Unit) (fun b=>f b) (fun _ _=>d) (fun _=>d) d (fun _ _=>d) d (fun _ _ _ _ _=>d) d (fun _=>d) (fun _ _ _ _ _=>d) (fun _=>d) d (fun _ _ _=>d) d (fun _ _=>d) (fun _ _=>d) d d () (fun _ _ _ _=>()) v
noncomputable def jH (f:IntKind→Int→R) (d:R) (v:AV):R:=
 AV.rec (motive_1:=fun _=>R) (motive_2:=fun _=>Unit) (fun _=>d) (fun k n=>f k n) (fun _=>d) d (fun _ _=>d) d (fun _ _ _ _ _=>d) d (fun _=>d) (fun _ _ _ _ _=>d) (fun _=>d) d (fun _ _ _=>d) d (fun _ _=>d) (fun _ _=>d) d d () (fun _ _ _ _=>()) v
noncomputable def lQ (f:List UInt8→R) (d:R) (v:AV):R:=
 AV.rec (motive_1:=fun _=>R) (motive_2:=fun _=>Unit) (fun _=>d) (fun _ _=>d) (fun s=>f s) d (fun _ _=>d) d (fun _ _ _ _ _=>d) d (fun _=>d) (fun _ _ _ _ _=>d) (fun _=>d) d (fun _ _ _=>d) d (fun _ _=>d) (fun _ _=>d) d d () (fun _ _ _ _=>()) v
noncomputable def sR (f:Nat→Nat→R) (d:R) (v:AV):R:=
 AV.rec (motive_1:=fun _=>R) (motive_2:=fun _=>Unit) (fun _=>d) (fun _ _=>d) (fun _=>d) d (fun i o=>f i o) d (fun _ _ _ _ _=>d) d (fun _=>d) (fun _ _ _ _ _=>d) (fun _=>d) d (fun _ _ _=>d) d (fun _ _=>d) (fun _ _=>d) d d () (fun _ _ _ _=>()) v
noncomputable def gn (e:R) (f:Nat→Nat→Nat→Nat→Bool→R) (d:R) (v:AV):R:=
 AV.rec (motive_1:=fun _=>R) (motive_2:=fun _=>Unit) (fun _=>d) (fun _ _=>d) (fun _=>d) d (fun _ _=>d) e (fun i o l c b=>f i o l c b) d (fun _=>d) (fun _ _ _ _ _=>d) (fun _=>d) d (fun _ _ _=>d) d (fun _ _=>d) (fun _ _=>d) d d () (fun _ _ _ _=>()) v
noncomputable def vZ (z d:R) (v:AV):R:=
 AV.rec (motive_1:=fun _=>R) (motive_2:=fun _=>Unit) (fun _=>d) (fun _ _=>d) (fun _=>d) d (fun _ _=>d) d (fun _ _ _ _ _=>d) d (fun _=>d) (fun _ _ _ _ _=>d) (fun _=>d) d (fun _ _ _=>d) d (fun _ _=>d) (fun _ _=>d) z d () (fun _ _ _ _=>()) v
noncomputable def G9 (f:FuncId→List AV→List AV→R) (y:Nat→R) (d:R) (v:AV):R:=
 AV.rec (motive_1:=fun _=>R) (motive_2:=fun _=>Unit) (fun _=>d) (fun _ _=>d) (fun _=>d) d (fun _ _=>d) d (fun _ _ _ _ _=>d) d (fun _=>d) (fun g a b _ _=>f g a b) (fun l=>y l) d (fun _ _ _=>d) d (fun _ _=>d) (fun _ _=>d) d d () (fun _ _ _ _=>()) v
noncomputable def sS (f:List AV→R) (t:List AV→R) (d:R) (v:AV):R:=
 AV.rec (motive_1:=fun _=>R) (motive_2:=fun _=>Unit) (fun _=>d) (fun _ _=>d) (fun _=>d) d (fun _ _=>d) d (fun _ _ _ _ _=>d) d (fun _=>d) (fun _ _ _ _ _=>d) (fun _=>d) d (fun _ _ _=>d) d (fun cs _=>f cs) (fun cs _=>t cs) d d () (fun _ _ _ _=>()) v
noncomputable def mS (f:TypeId→AV→R) (d:R) (v:AV):R:=
 AV.rec (motive_1:=fun _=>R) (motive_2:=fun _=>Unit) (fun _=>d) (fun _ _=>d) (fun _=>d) d (fun _ _=>d) d (fun _ _ _ _ _=>d) d (fun _=>d) (fun _ _ _ _ _=>d) (fun _=>d) d (fun t v _=>f t v) d (fun _ _=>d) (fun _ _=>d) d d () (fun _ _ _ _=>()) v
noncomputable def AJ (v:AV):Bool:=
 AV.rec (motive_1:=fun _=>Bool) (motive_2:=fun _=>Unit) (fun _=>false) (fun _ _=>false) (fun _=>false) false (fun _ _=>true) false (fun _ _ _ _ _=>true) false (fun _=>true) (fun _ _ _ _ _=>true) (fun _=>false) false (fun _ _ _=>false) false (fun _ _=>false) (fun _ _=>false) false false () (fun _ _ _ _=>()) v
noncomputable def ob {α:Type} (d:R) (f:α→R) (o:Option α):R:=Option.rec (motive:=fun _=>R) d f o
noncomputable def bc (b:Bool) (x y:R):R:=Bool.rec (motive:=fun _=>R) y x b
noncomputable def sU (f:List AV→TypeId→Bool→R) (d:R) (o:aw):R:=
 aw.rec (motive:=fun _=>R) (fun cs e ro=>f cs e ro) (fun _ _=>d) (fun _ _=>d) (fun _ _ _ _=>d) (fun _ _ _ _ _ _ _=>d) d o
noncomputable def gq (f:Nat→R) (d:R) (n:Int):R:=Int.rec (motive:=fun _=>R) f (fun _=>d) n
noncomputable def OY (a b c d e f g h:R) (k:IntKind):R:=IntKind.rec (motive:=fun _=>R) a b c d e f g h k
end
noncomputable def kc (k:IntKind):Nat:=OY 0 1 2 3 4 5 6 7 k
noncomputable def Kt (k j:IntKind):Bool:=Nat.beq (kc k) (kc j)
noncomputable def pU (k:IntKind):Nat:=OY 128 32768 2147483648 9223372036854775808 256 65536 4294967296 18446744073709551616 k
noncomputable def Ku (k:IntKind):Nat:=OY 8 16 32 64 8 16 32 64 k
noncomputable def Q8 (k:IntKind):Bool:=OY true true true true false false false false k
noncomputable def qa (k:IntKind) (n:Int):Int:=
 Int.rec (motive:=fun _=>Int) (fun m=>bc (Nat.ble (pU k) m) (bc (Q8 k) (k.wrap (Int.ofNat m)) (Int.ofNat (Nat.mod m (pU k)))) (Int.ofNat m))
  (fun m=>bc (Q8 k) (bc (Nat.ble (pU k) m) (k.wrap (Int.negSucc m)) (Int.negSucc m)) (k.wrap (Int.negSucc m))) n
noncomputable def mT (a b:Int):Int:=gq (fun x=>gq (fun y=>Int.ofNat (Nat.add x y)) (Int.add a b) b) (Int.add a b) a
noncomputable def ea (a b:Int):Int:=gq (fun x=>gq (fun y=>bc (Nat.ble y x) (Int.ofNat (Nat.sub x y)) (Int.negSucc (Nat.sub (Nat.sub y x) 1))) (Int.sub a b) b) (Int.sub a b) a
noncomputable def CM (a b:Int):Int:=gq (fun x=>gq (fun y=>Int.ofNat (Nat.mul x y)) (Int.mul a b) b) (Int.mul a b) a
noncomputable def Q9 (a b:Int):Bool:=
 Int.rec (motive:=fun _=>Bool) (fun x=>Int.rec (motive:=fun _=>Bool) (fun y=>Nat.beq x y) (fun _=>false) b) (fun x=>Int.rec (motive:=fun _=>Bool) (fun _=>false) (fun y=>Nat.beq x y) b) a
noncomputable def OZ (a b:Int):Bool:=
 Int.rec (motive:=fun _=>Bool) (fun x=>Int.rec (motive:=fun _=>Bool) (fun y=>Nat.ble (Nat.add x 1) y) (fun _=>false) b) (fun x=>Int.rec (motive:=fun _=>Bool) (fun _=>true) (fun y=>Nat.ble (Nat.add y 1) x) b) a
noncomputable def qA (b:Bool):Bool:=bc b false true
noncomputable def O0 (op:BinOp):IntKind→Int→Int→Option AV:=match op with
 | .add=>fun k a b=>some (.int k (qa k (mT a b)))
 | .sub=>fun k a b=>some (.int k (qa k (ea a b)))
 | .mul=>fun k a b=>some (.int k (qa k (CM a b)))
 | .eql=>fun _ a b=>some (.bool (Q9 a b))
 | .neq=>fun _ a b=>some (.bool (qA (Q9 a b)))
 | .lss=>fun _ a b=>some (.bool (OZ a b))
 | .leq=>fun _ a b=>some (.bool (qA (OZ b a)))
 | .gtr=>fun _ a b=>some (.bool (OZ b a))
 | .geq=>fun _ a b=>some (.bool (qA (OZ a b)))
 | .quo=>fun k a b=>gq (fun x=>gq (fun y=>bc (Nat.beq y 0) none (some (.int k (qa k (Int.ofNat (Nat.div x y)))))) (bW .quo k a b) b) (bW .quo k a b) a
 | .rem=>fun k a b=>gq (fun x=>gq (fun y=>bc (Nat.beq y 0) none (some (.int k (Int.ofNat (Nat.mod x y))))) (bW .rem k a b) b) (bW .rem k a b) a
 | .and=>fun k a b=>gq (fun x=>gq (fun y=>bc (Nat.ble (pU k) x) (bW .and k a b) (bc (Nat.ble (pU k) y) (bW .and k a b) (some (.int k (Int.ofNat (Nat.land x y)))))) (bW .and k a b) b) (bW .and k a b) a
 | .or=>fun k a b=>gq (fun x=>gq (fun y=>bc (Nat.ble (pU k) x) (bW .or k a b) (bc (Nat.ble (pU k) y) (bW .or k a b) (some (.int k (Int.ofNat (Nat.lor x y)))))) (bW .or k a b) b) (bW .or k a b) a
 | op=>fun k a b=>bW op k a b
noncomputable def Kv (k:IntKind) (y:Nat):Nat:=bc (Nat.ble (Ku k) y) (Ku k) y
noncomputable def VP (k:IntKind) (a b:Int):Option AV:=gq (fun y=>some (.int k (qa k (CM a (Int.ofNat (Nat.pow 2 (Kv k y))))))) none b
noncomputable def VQ (k:IntKind) (a b:Int):Option AV:=gq (fun y=>some (.int k (gq (fun x=>Int.ofNat (Nat.div x (Nat.pow 2 (Kv k y)))) (a.fdiv (2^(min y k.bits))) a))) none b
section
variable {α:Type}
noncomputable def fJ (l:List α):Nat:=List.rec (motive:=fun _=>Nat) 0 (fun _ _ ih=>Nat.add ih 1) l
noncomputable def fK (l:List α):Nat→Option α:=List.rec (motive:=fun _=>Nat→Option α) (fun _=>none) (fun v _ ih o=>bc (Nat.beq o 0) (some v) (ih (Nat.sub o 1))) l
noncomputable def oo (l:List α):Nat→List α:=List.rec (motive:=fun _=>Nat→List α) (fun _=> []) (fun v tl ih o=>bc (Nat.beq o 0) (v::tl) (ih (Nat.sub o 1))) l
noncomputable def oq (l:List α):Nat→List α:=List.rec (motive:=fun _=>Nat→List α) (fun _=> []) (fun v _ ih o=>bc (Nat.beq o 0) [] (v::ih (Nat.sub o 1))) l
noncomputable def il (l m:List α):List α:=List.rec (motive:=fun _=>List α) m (fun v _ ih=>v::ih) l
noncomputable def sW (f:α→Bool) (l:List α):Bool:=List.rec (motive:=fun _=>Bool) true (fun v _ ih=>bc (f v) ih false) l
noncomputable def CO (vs:List α):List α→List α:=
 List.rec (motive:=fun _=>List α→List α) (fun cs=>cs) (fun v _ ih cs=>List.rec (motive:=fun _=>List α) [] (fun _ tl _=>v::ih tl) cs) vs
noncomputable def CP (vs cs:List α):Nat→List α:=
 List.rec (motive:=fun _=>Nat→List α) (fun _=> []) (fun c tl ih o=>bc (Nat.beq o 0) (CO vs (c::tl)) (c::ih (Nat.sub o 1))) cs
noncomputable def leq (f:α→α→Bool) (l:List α):List α→Bool:=
 List.rec (motive:=fun _=>List α→Bool) (fun m=>List.rec (motive:=fun _=>Bool) true (fun _ _ _=>false) m)
  (fun x _ ih m=>List.rec (motive:=fun _=>Bool) false (fun y tl _=>bc (f x y) (ih tl) false) m) l
end
noncomputable def vz (a b:UInt8):Bool:=Nat.beq a.toBitVec.toFin.val b.toBitVec.toFin.val
noncomputable def O1 (v:AV):Bool:=sS (fun _=>false) (fun _=>false) true v
noncomputable def iw (v:AV):List AV:=sS (fun cs=>cs) (fun _=> [v]) [v] v
end Go.Ab.Fa
end
section
namespace Go.Ab.Fa
section
variable {α β:Type}
noncomputable def uB (l:List Nat) (x:Nat):Bool:=List.rec (motive:=fun _=>Bool) false (fun y _ ih=>bc (Nat.beq x y) true ih) l
noncomputable def SK (f:α→Bool) (l:List α):Bool:=List.rec (motive:=fun _=>Bool) false (fun v _ ih=>bc (f v) true ih) l
noncomputable def allI (f:α→Nat→Bool) (l:List α) (i:Nat):Bool:=List.rec (motive:=fun _=>Nat→Bool) (fun _=>true) (fun v _ ih i=>bc (f v i) (canon (Nat.add i 1) ih) false) l i
noncomputable def CQ (f:α→Nat→Bool) (l:List α) (i:Nat):List Nat:=List.rec (motive:=fun _=>Nat→List Nat) (fun _=> []) (fun v _ ih i=>bc (f v i) (i::canon (Nat.add i 1) ih) (canon (Nat.add i 1) ih)) l i
noncomputable def AK (f:α→Bool) (l:List α):Nat:=List.rec (motive:=fun _=>Nat) 0 (fun v _ ih=>bc (f v) (Nat.add ih 1) ih) l
noncomputable def Fv (f:α→Bool) (l:List α):Nat:=List.rec (motive:=fun _=>Nat) 0 (fun v _ ih=>bc (f v) (Nat.add ih 1) 0) l
noncomputable def vA (l:List α) (i:Nat) (d:α):α:=ob d (fun x=>x) (fK l i)
noncomputable def lR (l:List α):(List α→β)→β:=List.rec (motive:=fun _=>(List α→β)→β) (fun k=>k []) (fun x _ ih k=>ih fun tl=>k (x::tl)) l
theorem sX (l:List α) (k:List α→β):lR l k=k l:=by
 induction l generalizing k with
 | nil=>rfl
 | cons y tl ih=>show lR tl (fun tl=>k (y::tl))=_;rw[ih]
noncomputable def Fw (l:List α) (k:List α→β):β:=List.rec (motive:=fun _=>β) (k []) (fun x tl _=>k (x::tl)) l
theorem Iu (l:List α) (k:List α→β):Fw l k=k l:=by cases l<;>rfl
noncomputable def AL (f:List β→α→List β) (l:List α) (b:List β):List β:=List.rec (motive:=fun _=>List β→List β) (fun b=>b) (fun v _ ih b=>Fw (f b v) ih) l b
theorem ze (f:List β→α→List β) (l:List α) (b:List β):AL f l b=l.foldl f b:=by
 induction l generalizing b with
 | nil=>rfl
 | cons y tl ih=>show Fw (f b y) (AL f tl)=_;rw[Iu,ih];rfl
theorem ot (b:Bool) (x y:α):bc b x y=bif b then x else y:=by cases b<;>rfl
theorem uC (x y:Nat):(x==y)=Nat.beq x y:=by
 cases h:Nat.beq x y
 · rw[beq_eq_false_iff_ne];intro e;subst e;rw[Nat.beq_refl] at h;exact absurd h (by simp)
 · rw[Nat.eq_of_beq_eq_true h];simp
theorem pE (l:List Nat) (x:Nat):uB l x=l.contains x:=by
 induction l with
 | nil=>rfl
 | cons y tl ih=>
   show bc (Nat.beq x y) true (uB tl x)=_
   rw[ih,ot,List.contains_cons,uC]
   cases Nat.beq x y<;>rfl
theorem O2 (f:α→Bool) (l:List α):SK f l=l.any f:=by
 induction l with
 | nil=>rfl
 | cons y tl ih=>show bc (f y) true (SK f tl)=_;rw[ih,ot,List.any_cons];cases f y<;>rfl
theorem mU (f:α→Bool) (l:List α):sW f l=l.all f:=by
 induction l with
 | nil=>rfl
 | cons y tl ih=>show bc (f y) (sW f tl) false=_;rw[ih,ot,List.all_cons];cases f y<;>rfl
theorem AM (f:α→Nat→Bool) (l:List α) (i:Nat):allI f l i=(l.zipIdx i).all fun p=>f p.1 p.2:=by
 induction l generalizing i with
 | nil=>rfl
 | cons y tl ih=>show bc (f y i) (canon (i+1) (allI f tl)) false=_;rw[ir,ih,ot,List.zipIdx_cons,List.all_cons];cases f y i<;>rfl
theorem CT (f:α→Nat→Bool) (l:List α) (i:Nat):CQ f l i=((l.zipIdx i).filter fun p=>f p.1 p.2).map (·.2):=by
 induction l generalizing i with
 | nil=>rfl
 | cons y tl ih=>
   show bc (f y i) (i::canon (i+1) (CQ f tl)) (canon (i+1) (CQ f tl))=_
   rw[ir,ih,ot,List.zipIdx_cons,List.filter_cons];cases f y i<;>simp
theorem Iv (f:α→Bool) (l:List α):AK f l=(l.filter f).length:=by
 induction l with
 | nil=>rfl
 | cons y tl ih=>show bc (f y) (AK f tl+1) (AK f tl)=_;rw[ih,ot,List.filter_cons];cases f y<;>simp
theorem Iw (f:α→Bool) (l:List α):Fv f l=(l.takeWhile f).length:=by
 induction l with
 | nil=>rfl
 | cons y tl ih=>show bc (f y) (Fv f tl+1) 0=_;rw[ih,ot,List.takeWhile_cons];cases f y<;>simp
theorem ey (l:List α) (i:Nat):fK l i=l[i]? :=by
 induction l generalizing i with
 | nil=>rfl
 | cons y tl ih=>
   show bc (Nat.beq i 0) (some y) (fK tl (i - 1))=_
   rw[ih,ot]
   cases i with
   | zero=>rfl
   | succ i=>rw[show Nat.beq (i+1) 0=false from rfl];simp
theorem rD (l:List α) (i:Nat) (d:α):vA l i d=l.getD i d:=by
 unfold vA;rw[ey,List.getD_eq_getElem?_getD];cases l[i]? <;>rfl
theorem dH (l:List α):fJ l=l.length:=by
 induction l with
 | nil=>rfl
 | cons y tl ih=>show fJ tl+1=_;rw[ih];rfl
theorem jX (l m:List α):il l m=l++m:=by
 induction l with
 | nil=>rfl
 | cons y tl ih=>show y::il tl m=_;rw[ih];rfl
end
noncomputable def tW (p:Program) (t:TypeId):Option TypeInfo:=ob (p.info? t) (fun i=>some i) (fK p.types.toList t)
noncomputable def Q_ (i:TypeInfo) (p:Program):Option TypeDesc:=TypeDesc.rec (motive:=fun _=>Option TypeDesc) (some i.desc) (some i.desc) (fun _=>some i.desc) (fun _=>some i.desc) (fun _=>some i.desc) (some i.desc) (some i.desc)
 (fun _=>some i.desc) (fun _=>some i.desc) (fun _ _=>some i.desc) (fun _ _=>some i.desc) (fun _ _=>some i.desc) (fun _=>some i.desc) (fun _ _ _=>some i.desc) (fun _=>some i.desc) (fun _=>some i.desc)
 (fun _ u=>ob none (fun j=>some j.desc) (tW p u)) i.desc
noncomputable def gN (p:Program) (t:TypeId):Option TypeDesc:=ob none (fun i=>Q_ i p) (tW p t)
theorem ou (p:Program) (t:TypeId):tW p t=p.info? t:=by
 unfold tW;rw[ey,Array.getElem?_toList]
 cases h:p.types[t]? with
 | none=>rfl
 | some i=>
   show some i=p.info? t
   unfold Tables.info?
   obtain ⟨iv,_⟩:=Array.getElem?_eq_some_iff.mp h
   rw[if_pos iv,h]
theorem fk (p:Program) (t:TypeId):gN p t=p.underlying t:=by
 unfold gN Program.underlying
 rw[ou]
 cases p.info? t with
 | none=>rfl
 | some i=>
   show Q_ i p=_
   obtain ⟨d,_⟩:=i
   cases d with
   | named a u=>show ob none (fun j=>some j.desc) (tW p u)=Option.map (fun x=>x.desc) (p.info? u);rw[ou];cases p.info? u<;>rfl
   | _=>rfl
noncomputable def SL (p:Program) (f:FuncId):Option Func:=fK p.funcs.toList f
theorem O3 (p:Program) (f:FuncId):SL p f=p.funcs[f]? :=by
 unfold SL;rw[ey];exact Array.getElem?_toList
variable (E:Env)
noncomputable def mj (op:Op):Bool:=match op with
 | .store .. | .mapUpdate .. | .insert .. | .mapEntry .. | .entryStore .. | .next .. | .panic _ | .defer _=>true
 | .convert _ dst _=>match gN E.P dst with
   | some (.slice _)=>true
   | _=>false
 | .call c=>match c.callee with
   | .builtin .len | .builtin .cap | .builtin .max | .builtin .min=>false
   | .builtin _=>true
   | .value (.func f)=>match E.jg f with
     | none=>true
     | some _=>false
   | _=>true
 | _=>false
theorem ov (op:Op):mj E op=dv E op:=by
 unfold mj dv
 cases op<;>try rfl
 · simp only[fk]
   rename_i dst _
   generalize E.P.underlying dst=u
   cases u with
   | none=>rfl
   | some d=>cases d<;>rfl
 · rename_i c
   rcases c with ⟨cC,a,t⟩
   cases cC with
   | value x=>
     cases x with
     | func f=>simp only;cases E.jg f<;>rfl
     | _=>rfl
   | builtin b=>cases b<;>rfl
   | _=>rfl
noncomputable def Q' (g:Ground):Bool:=Ground.rec (motive:=fun _=>Bool) true true true true (fun _=>false) (fun _=>false) g
noncomputable def qB (o:Oper):List Nat:=List.rec (motive:=fun _=>List Nat) [] (fun e _ ih=>bc (Q' e.ground) (e.on::ih) ih) o.after.toList
theorem zf (o:Oper):qB o=h_ o:=by
 unfold qB h_
 induction o.after.toList with
 | nil=>rfl
 | cons e tl ih=>
   show bc (Q' e.ground) (e.on::_) _=_
   rw[ih,List.filter_cons]
   obtain ⟨on,g⟩:=e
   cases g<;>rfl
noncomputable def O4 (l:List Nat) (x:Nat):List Nat:=bc (uB l x) l (x::l)
noncomputable def G_ (acc:List (List Nat)) (es:List Nat):List Nat:=AL (fun l e=>AL O4 (vA acc e []) (O4 l e)) es []
noncomputable def Kw (l:List Oper):List (List Nat)→List (List Nat):=List.rec (motive:=fun _=>List (List Nat)→List (List Nat)) (fun acc=>acc) (fun o _ ih acc=>lR (G_ acc (qB o)) fun a=>lR (il acc [a]) ih) l
theorem G' (l:List Nat) (x:Nat):O4 l x=if l.contains x then l else x::l:=by
 unfold O4;rw[pE,ot];cases l.contains x<;>rfl
theorem Kx (acc:List (List Nat)) (o:Oper):G_ acc (qB o)=(h_ o).foldl (fun l e=>(acc.getD e []).foldl (fun l x=>if l.contains x then l else x::l) (if l.contains e then l else e::l)) []:=by
 unfold G_
 rw[ze,zf]
 congr 1
 funext l e
 rw[ze,rD,G']
 congr 1
 funext l x
 exact G' l x
theorem CU:∀(l:List Oper) (acc:List (List Nat)),Kw l acc=Ca l acc
 | [],_=>rfl
 | o::rest,acc=>by
   show lR (G_ acc (qB o)) (fun a=>lR (il acc [a]) (Kw rest))=_
   rw[sX,sX,CU rest,jX,Kx];rfl
noncomputable def kt (an:List (List Nat)) (i j:Nat):Bool:=uB (vA an i []) j
theorem ml (an:List (List Nat)) (i j:Nat):kt an i j=cm an i j:=by
 unfold kt cm Cb;rw[pE,rD]
noncomputable def vB (ops:List Oper) (an:List (List Nat)):Bool:=
 allI (fun o i=>bc (sW (fun e=>bc (Nat.ble (Nat.add e 1) i) (kt an i e) false) (qB o)) (sW (fun j=>bc (Nat.ble (Nat.add j 1) i) (SK (fun e=>bc (Nat.beq e j) true (kt an e j)) (qB o)) false) (vA an i [])) false) ops 0
theorem pF (a b:Nat):decide (a<b)=Nat.ble (a+1) b:=by
 by_cases h:a<b
 · rw[decide_eq_true h,Nat.ble_eq_true_of_le h]
 · rw[decide_eq_false h];symm;rw[Bool.eq_false_iff];intro e;exact h (Nat.le_of_ble_eq_true e)
theorem ku (a b:Bool):bc a b false=(a&&b):=by cases a<;>rfl
theorem Ra (a b:Bool):bc a true b=(a||b):=by cases a<;>rfl
theorem CV (ops:List Oper) (an:List (List Nat)):vB ops an=uN ops an:=by
 unfold vB uN
 rw[AM]
 congr 1
 funext ⟨o,i⟩
 simp only[ku,Ra,mU,O2,rD,zf,ml,pF,uC]
 rfl
noncomputable def SM (l:List Operand):List Nat:=List.rec (motive:=fun _=>List Nat) [] (fun x _ ih=>Operand.rec (motive:=fun _=>List Nat) (fun t=>t::ih) (fun _=>ih) (fun _=>ih) (fun _=>ih) x) l
theorem O5 (l:List Operand):SM l=l.filterMap fun | .tmp t=>some t | _=>none:=by
 induction l with
 | nil=>rfl
 | cons x tl ih=>
   cases x<;>simp only[List.filterMap_cons,←ih]<;>rfl
noncomputable def Yv (op:Op):List Operand:=match op with
 | .move x | .assign x | .box _ x | .load _ x | .nilCheck x | .unOp _ _ x | .convert _ _ x | .fieldAddr _ x _ | .field _ x _ | .extract x _=> [x]
 | .pick c a b=> [c,a,b]
 | .store _ a v | .binOp _ _ a v _ | .indexAddr _ a v | .index _ a v=> [a,v]
 | .alloc _=> []
 | .call c=>il (match c.callee with | .value f=> [f] | .invoke r _=> [r] | .builtin _=> []) c.args.toList
 | op=>op.operands.toList
theorem SN (op:Op):Yv op=op.operands.toList:=by
 cases op<;>try rfl
 rename_i c
 obtain ⟨cC,a,t⟩:=c
 cases cC<;>simp [Yv,Op.operands,Call.operands,jX]
noncomputable def vC (ops:List Oper) (an:List (List Nat)):Bool:=
 allI (fun o i=>bc (ob true (fun g=>bc (kt an i g.1) (ob false (fun p=>ob false (fun _=>true) p.dst) (fK ops g.1)) false) o.guard)
  (allI (fun p j=>bc (Nat.beq i j) true (ob true (fun d=>bc (ob true (fun a=>qA (Nat.beq a d)) o.dst) (bc (uB (SM (Yv o.op)) d) (bc (kt an i j) true (kt an j i)) true) false) p.dst)) ops 0) false) ops 0
theorem CW (ops:List Oper) (an:List (List Nat)):vC ops an=uO ops an:=by
 unfold vC uO
 rw[AM]
 congr 1
 funext ⟨o,i⟩
 simp only[ku,Ra,ml]
 congr 1
 · obtain ⟨dst,op,ty,pos,after,guard⟩:=o
   cases guard with
   | none=>rfl
   | some g=>
     show (cm an i g.1&&ob false (fun p=>ob false (fun _=>true) p.dst) (fK ops g.1))=_
     rw[ey]
     congr 1
     cases ops[g.1]? with
     | none=>rfl
     | some p=>
       show ob false (fun _=>true) p.dst=(p.dst).isSome
       cases p.dst<;>rfl
 · rw[AM]
   congr 1
   funext ⟨p,j⟩
   show (Nat.beq i j||_)=(i==j||_)
   rw[uC]
   congr 1
   obtain ⟨dst,op,ty,pos,after,guard⟩:=p
   cases dst with
   | none=>rfl
   | some d=>
     show (ob true (fun a=>qA (Nat.beq a d)) o.dst&&bc (uB (SM (Yv o.op)) d) (cm an i j||cm an j i) true)=(o.dst !=some d&&(!(tmpsOf o).contains d||cm an i j||cm an j i))
     congr 1
     · cases o.dst with
       | none=>rfl
       | some a=>
         show qA (Nat.beq a d)= !(some a==some d)
         rw[Option.some_beq_some,uC]
         cases Nat.beq a d<;>rfl
     · rw[pE,O5,SN,Bool.or_assoc]
       show bc ((tmpsOf o).contains d) _ _=_
       cases (tmpsOf o).contains d<;>rfl
noncomputable def Fx (an:List (List Nat)) (l:List Nat):Bool:=List.rec (motive:=fun _=>Bool) true (fun e rest ih=>List.rec (motive:=fun _=>Bool) true (fun f _ _=>bc (kt an f e) ih false) rest) l
theorem zg (an:List (List Nat)):∀l,Fx an l=pr an l
 | []=>rfl
 | [e]=>rfl
 | e::f::rest=>by
   show bc (kt an f e) (Fx an (f::rest)) false=_
   rw[zg an (f::rest),ml,ku];rfl
noncomputable def Ky (ops:List Oper):List Nat:=CQ (fun o _=>mj E o.op) ops 0
theorem Kz (ops:List Oper):Ky E ops=jB E ops:=by
 unfold Ky jB;rw[CT];simp only[ov]
noncomputable def zh (aW:List Nat) (an:List (List Nat)) (i:Nat):Nat:=AK (fun e=>kt an i e) aW
theorem CX (aW:List Nat) (an:List (List Nat)) (i:Nat):zh aW an i=Aa aW an i:=by
 unfold zh Aa;rw[Iv];simp only[ml]
noncomputable def AN (ops:List Oper) (aW:List Nat) (an:List (List Nat)) (k:Nat):List Nat:=
 il (CQ (fun o i=>bc (mj E o.op) false (Nat.beq (zh aW an i) k)) ops 0) (ob [] (fun x=> [x]) (fK aW k))
theorem Ix (ops:List Oper) (aW:List Nat) (an:List (List Nat)) (k:Nat):AN E ops aW an k=group E ops aW an k:=by
 unfold AN group
 rw[jX,CT,ey]
 congr 1
 · congr 1
   congr 1
   funext ⟨o,i⟩
   show bc (mj E o.op) false (Nat.beq (zh aW an i) k)=(!dv E o.op&&(Aa aW an i==k))
   rw[ov,CX,uC];cases dv E o.op<;>rfl
 · cases aW[k]? <;>rfl
noncomputable def AO (ops:List Oper) (aW:List Nat) (an:List (List Nat)) (n:Nat):Nat→List Nat:=
 Nat.rec (motive:=fun _=>Nat→List Nat) (fun _=> []) (fun _ ih k=>il (AN E ops aW an k) (canon (Nat.add k 1) ih)) n
theorem vD (ops:List Oper) (aW:List Nat) (an:List (List Nat)):∀n k,AO E ops aW an n k=ke E ops aW an n k
 | 0,_=>rfl
 | n+1,k=>by
   show il (AN E ops aW an k) (canon (k+1) (AO E ops aW an n))=_
   rw[ir,vD ops aW an n,jX,Ix];rfl
noncomputable def uR (aW:List Nat) (an:List (List Nat)) (i:Nat):Nat:=Fv (fun e=>qA (kt an e i)) aW
theorem Fy (aW:List Nat) (an:List (List Nat)) (i:Nat):uR aW an i=gV aW an i:=by
 unfold uR gV;rw[Iw];congr 2;funext e;rw[ml];cases cm an e i<;>rfl
noncomputable def Fz (n:Nat):List Nat→List Nat:=Nat.rec (motive:=fun _=>List Nat→List Nat) (fun l=>l) (fun m ih l=>ih (m::l)) n
theorem zi:∀n l,Fz n l=List.range.loop n l
 | 0,_=>rfl
 | n+1,l=>zi n (n::l)
noncomputable def AP (ops:List Oper) (an:List (List Nat)) (aW:List Nat) (l:List Nat):List Nat→Nat→Bool:=
 List.rec (motive:=fun _=>List Nat→Nat→Bool) (fun seen k=>bc (sW (fun i=>uB seen i) (Fz (fJ ops) [])) (Nat.beq k (fJ aW)) false)
  (fun i _ ih seen k=>bc (Nat.ble (Nat.add i 1) (fJ ops)) (bc (uB seen i) false (bc (sW (fun j=>uB seen j) (vA an i []))
   (bc (ob (mj E (default:Oper).op) (fun o=>mj E o.op) (fK ops i)) (bc (ob false (fun e=>Nat.beq e i) (fK aW k)) (canon (Nat.add k 1) (ih (i::seen))) false)
    (bc (Nat.beq (zh aW an i) k) (ih (i::seen) k) false)) false)) false) l
theorem sY (ops:Array Oper) (an:List (List Nat)) (aW:List Nat):∀l seen k,AP E ops.toList an aW l seen k=ia E ops an aW l seen k
 | [],seen,k=>by
   show bc (sW (fun i=>uB seen i) (Fz (fJ ops.toList) [])) (Nat.beq k (fJ aW)) false=_
   rw[ku,mU,zi,dH,dH]
   simp only[pE]
   unfold ia
   rw[uC,Array.length_toList]
   rfl
 | i::rest,seen,k=>by
   show bc (Nat.ble (i+1) (fJ ops.toList)) (bc (uB seen i) false (bc (sW (fun j=>uB seen j) (vA an i []))
    (bc (ob (mj E (default:Oper).op) (fun o=>mj E o.op) (fK ops.toList i)) (bc (ob false (fun e=>Nat.beq e i) (fK aW k)) (canon (k+1) (AP E ops.toList an aW rest (i::seen))) false)
     (bc (Nat.beq (zh aW an i) k) (AP E ops.toList an aW rest (i::seen) k) false)) false)) false=_
   rw[ir,sY ops an aW rest,sY ops an aW rest,mU,rD,pE,CX,dH]
   simp only[pE]
   rw[show ob (mj E (default:Oper).op) (fun o=>mj E o.op) (fK ops.toList i)=dv E ((ops.getD i default).op) by
    rw[ey,ov]
    rw[show ops.getD i default=(ops.toList[i]?).getD default by rw[Array.getElem?_toList,Array.getD_eq_getD_getElem?]]
    cases ops.toList[i]? with
    | none=>rfl
    | some o=>exact ov E o.op]
   rw[show ob false (fun e=>Nat.beq e i) (fK aW k)=(aW[k]? ==some i) by rw[ey];cases aW[k]? with
    | none=>rfl
    | some e=>rw[Option.some_beq_some,uC];rfl]
   rw[ia,pF]
   simp only[ku]
   rw[←uC (Aa aW an i) k,show ops.toList.length=ops.size from Array.length_toList]
   rw[ot,ot]
   show (Nat.ble (i+1) ops.size&&(bif List.contains seen i then false else _))=_
   unfold Cb
   cases Nat.ble (i+1) ops.size<;>cases List.contains seen i<;>cases (an.getD i []).all (fun j=>List.contains seen j)<;>cases dv E ((ops.getD i default).op)<;>rfl
noncomputable def Yw (x:Nat) (l:List Nat):Bool:=List.rec (motive:=fun _=>Bool) true (fun y _ ih=>bc (Nat.beq x y) false ih) l
noncomputable def AQ (l:List Nat):Bool:=List.rec (motive:=fun _=>Bool) true (fun x tl ih=>bc (Yw x tl) ih false) l
theorem SO (x:Nat) (l:List Nat):Yw x l= !l.contains x:=by
 induction l with
 | nil=>rfl
 | cons y tl ih=>
   show bc (Nat.beq x y) false (Yw x tl)=_
   rw[ih,List.contains_cons,uC]
   cases Nat.beq x y<;>rfl
theorem sZ:∀l,AQ l=nodup l
 | []=>rfl
 | x::tl=>by
   show bc (Yw x tl) (AQ tl) false=_
   rw[sZ tl,SO,ku];rfl
noncomputable def KA {R:Type} (ops:Array Oper) (k:iT→R) (d:R):R:=
 lR ops.toList fun l=>lR (Kw l []) fun an=>lR (Ky E l) fun aW=>lR (AO E l aW an (Nat.add (fJ aW) 1) 0) fun order=>
 bc (vB l an) (bc (vC l an) (bc (Fx an aW) (bc (AQ aW) (bc (AP E l an aW order [] 0) (k ⟨an,aW,order⟩) d) d) d) d) d
theorem KB {R:Type} (ops:Array Oper) (k:iT→R) (d:R):KA E ops k d=match nY E ops with | some pl=>k pl | none=>d:=by
 unfold KA nY
 simp only[sX,CU,Kz,vD,CV,CW,zg,sZ,sY,dH]
 generalize uN ops.toList (Ca ops.toList [])=a
 generalize uO ops.toList (Ca ops.toList [])=b
 generalize pr (Ca ops.toList []) (jB E ops.toList)=c
 generalize nodup (jB E ops.toList)=e
 show bc a (bc b (bc c (bc e (bc (ia E ops _ _ (ke E ops.toList _ _ ((jB E ops.toList).length+1) 0) [] 0) _ d) d) d) d) d=_
 generalize ia E ops (Ca ops.toList []) (jB E ops.toList) (ke E ops.toList (jB E ops.toList) (Ca ops.toList []) ((jB E ops.toList).length+1) 0) [] 0=f
 cases a<;>cases b<;>cases c<;>cases e<;>cases f<;>rfl
end Go.Ab.Fa
end
