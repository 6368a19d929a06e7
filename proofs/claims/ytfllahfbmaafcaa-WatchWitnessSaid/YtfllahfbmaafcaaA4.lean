import Derived.Test.YtfllahfbmaafcaaA3
import Derived.Test.YtfllahfbmaafcaaA0
set_option linter.unusedVariables false
set_option linter.unusedSimpArgs false
section
namespace Go.Ab
variable {E:Env}
def IF (P:Program) (m:Machine) (b:Frame) (k:List Item) (cs:List Frame):Exit→Act→World→Prop
 | .normal,a,w=>Steps P m (lone (b.atR a k) cs w)
 | .exit id,a,w=>∃todo,exitTo id todo=exitTo id k∧Steps P m (lone (b.atR a (.code (.exit id)::todo)) cs w)
 | .ret,a,w=>∃todo,Steps P m (lone (b.atR a (.code .ret::todo)) cs w)
 | .panic chain,a,w=>∃todo,Steps P m (lone {b.atR a todo with mode:= .panicking chain} cs w)
 | _,_,_=>False
theorem IF.of_steps {P:Program} {m m':Machine} {b:Frame} {k:List Item} {cs:List Frame} {e:Exit} {a:Act} {w:World} (hs:Steps P m m') (h:IF P m' b k cs e a w):IF P m b k cs e a w:=by
 cases e with
 | normal=>exact Steps.trans hs h
 | exit id=>obtain ⟨t,h1,h2⟩:=h;exact ⟨t,h1,Steps.trans hs h2⟩
 | ret=>obtain ⟨t,h2⟩:=h;exact ⟨t,Steps.trans hs h2⟩
 | panic c=>obtain ⟨t,h2⟩:=h;exact ⟨t,Steps.trans hs h2⟩
 | goto l=>exact h.elim
 | outgrown=>exact h.elim
theorem IF.pass {P:Program} {m:Machine} {b:Frame} {x:Item} {k:List Item} {cs:List Frame} {e:Exit} {a:Act} {w:World} (hx:∀id,exitTo id (x::k)=exitTo id k) (hn:e≠ .normal) (h:IF P m b (x::k) cs e a w):IF P m b k cs e a w:=by
 cases e with
 | normal=>exact absurd rfl hn
 | exit id=>obtain ⟨t,h1,h2⟩:=h;exact ⟨t,h1.trans (hx id),h2⟩
 | ret=>exact h
 | panic c=>exact h
 | goto l=>exact h.elim
 | outgrown=>exact h.elim
structure qi (E:Env) (φ:Ph) (h:aA) (w:World) (b:Frame) (K:Bool→List Frame) (k:List Item) (m:Machine) (e:iB) (s':St):Prop where
 is:∃φ' w' a' e',Zc φ' e e'∧SR φ' s'.ts s'.ds a'∧OK E φ' s'.h w'∧Fr φ h w φ' s'.h w'∧nJ φ' b K s'.rc∧IF E.P m b k (cur K s'.rc) e' a' w'
theorem qi.of_steps {φ:Ph} {h:aA} {w:World} {b:Frame} {K:Bool→List Frame} {k:List Item} {m m':Machine} {e:iB} {s':St} (hs:Steps E.P m m') (x:qi E φ h w b K k m' e s'):qi E φ h w b K k m e s':=by
 obtain ⟨φ',w',a',e',h1,h2,h3,h4,h5,h6⟩:=x.is
 exact ⟨φ',w',a',e',h1,h2,h3,h4,h5,.of_steps hs h6⟩
theorem qi.later {φ φ₁:Ph} {h h₁:aA} {w w₁:World} {b:Frame} {K:Bool→List Frame} {k:List Item} {m:Machine} {e:iB} {s':St} (f:Fr φ h w φ₁ h₁ w₁) (x:qi E φ₁ h₁ w₁ b K k m e s'):qi E φ h w b K k m e s':=by
 obtain ⟨φ',w',a',e',h1,h2,h3,h4,h5,h6⟩:=x.is
 exact ⟨φ',w',a',e',h1,h2,h3,f.trans h4,h5,h6⟩
theorem OK.made {φ:Ph} {h h':aA} {w:World} (ok:OK E φ h w) {o:aX} {O:Obj} (hn:h.new o=some h') (ho:OR E (φ.add h.nx ⟨w.heap.size,0,0⟩) o ⟨w.heap.size,0,0⟩ (some O)):
 OK E (φ.add h.nx ⟨w.heap.size,0,0⟩) h' (w.alloc O)∧Fr φ h w (φ.add h.nx ⟨w.heap.size,0,0⟩) h' (w.alloc O)∧φ.le (φ.add h.nx ⟨w.heap.size,0,0⟩):=
 ok.fresh (w':=w.alloc O) hn ⟨w.heap.size,0,0⟩ (by rw[show (w.alloc O).heap=w.heap.push O from rfl];simpa using ho)
  (fun c eF hc=>by rw[show (w.alloc O).heap=w.heap.push O from rfl,Array.getElem?_push,if_neg (by simpa using eF)]) (by simp) (Nat.le_refl _) rfl rfl rfl
theorem OK.Gb {φ:Ph} {h:aA} {w:World} (ok:OK E φ h w) {i:Nat} {o o':aX} {l:Loc} (hg:h.get i=some o) (HZ:o.rw=true) (hl:φ i=some l) {O:Obj} (ho:OR E φ o' l (some O)):
 OK E φ (h.put i (some o')) (w.putObj l.eg O)∧Fr φ h w φ (h.put i (some o')) (w.putObj l.eg O):=by
 have lJ:l.eg<w.heap.size:=by
  rcases Nat.lt_or_ge l.eg w.heap.size with h1 | h1
  · exact h1
  · have:=ok.live i o l hg hl
    rw[Array.getElem?_eq_none h1] at this
    exact this.absurd.elim
 exact ok.change hg HZ hl (by rw[World.putObj_heap_same lJ];exact ho) (fun c hc=>World.putObj_heap_other hc) World.putObj_size rfl rfl rfl
theorem OK.shut {φ:Ph} {h:aA} {w:World} (ok:OK E φ h w) {i:Nat} {o:aX} {l:Loc} (hg:h.get i=some o) (HZ:o.rw=true) (hl:φ i=some l) (O:Obj):
 OK E φ (h.put i none) (w.putObj l.eg O)∧Fr φ h w φ (h.put i none) (w.putObj l.eg O):=by
 have gL:∀j p,(h.put i none).get j=some p→h.get j=some p∧j≠i:=fun j p hj=>by
  by_cases e:i=j
  · subst e;rw[aA.ck] at hj;simp at hj
  · rw[aA.bB e] at hj;exact ⟨hj,Ne.symm e⟩
 refine ⟨⟨ok.Aw,ok.nx,ok.vr,fun j p m hj hm=>?_,fun j k p q m n hj hk=>ok.inj j k p q m n (gL j p hj).1 (gL k q hk).1⟩,
  ⟨Ph.le_refl φ,fun _ _=>rfl,Nat.le_refl _,rfl,rfl,rfl,by simp,fun b _ hn=>World.putObj_heap_other (fun e=>hn i o l hg HZ hl e.symm),fun j p m hj hr hm=> .inr ⟨j,p,m,(gL j p hj).1,hr,hm,rfl⟩⟩⟩
 obtain ⟨nD,eF⟩:=gL j p hj
 rw[World.putObj_heap_other (fun e=>eF (ok.inj j i p o m l nD hg hm hl (.inr HZ) e))]
 exact ok.live j p m nD hm
theorem IG {s:St} {dn:Nat} {h1:aA} {Y0:List oB} (ho:MK s=some (dn,h1,Y0)) {φ:Ph} {a:Act} {w:World} {b:Frame} {K:Bool→List Frame} (hs:SR φ s.ts s.ds a) (ok:OK E φ s.h w) (gG:nJ φ b K s.rc)
 (ps:Array Tmp) (as_ bd:Code):∃φ1 w1 ld mark,φ.le φ1∧OK E φ1 h1 w1∧Fr φ s.h w φ1 h1 w1∧φ1 dn=some ld∧SR φ1 s.ts Y0 {a with defers:=mark++a.defers}∧
  (Instr.enterLoop b.fn a.tmps ps as_ bd b.roundOf).run E.P w= .ok (w1.heap.size,mark) (w1.alloc (.loop {state:= .ready,pending:=none,fn:=b.fn,tmps:=a.tmps,params:=ps,assign:=as_,body:=bd,defers:=ld.eg})):=by
 unfold MK at ho
 split at ho
 · rename_i l hl
   split at ho
   · rename_i st pd ts qM uF Vi Vj hg
     simp at ho;obtain ⟨rfl,rfl,rfl⟩:=ho
     rw[hl] at gG
     obtain ⟨ll,hφ,QY⟩:=gG
     obtain ⟨_,r,hr,yR⟩:=ok.live _ _ _ hg hφ
     obtain ⟨ld,hd1,VG⟩:=yR.defers
     refine ⟨φ,w,ld,[],Ph.le_refl φ,ok,Fr.refl _ _ _,hd1,⟨hs.ts,hs.ds⟩,?_⟩
     rw[QY,run_enterLoop_inner hr,VG]
   · simp at ho
 · rename_i Dy
   split at ho
   · rename_i h1' hn
     simp at ho;obtain ⟨rfl,rfl,rfl⟩:=ho
     obtain ⟨ID,fr1,hle⟩:=ok.made (O:= .deferred (some [])) hn ⟨rfl,rfl⟩
     have iH:(φ.add s.h.nx ⟨w.heap.size,0,0⟩) s.h.nx=some ⟨w.heap.size,0,0⟩:=by simp [Ph.add]
     refine ⟨_,_,⟨w.heap.size,0,0⟩,[{target:= .collected w.heap.size,args:= #[]}],hle,ID,fr1,iH,⟨hs.ts.mono hle,⟨_,iH,rfl⟩,hs.ds.mono hle⟩,?_⟩
     rw[gG.plain (Bo Dy),run_enterLoop_outer]
     simp
   · simp at ho
theorem Q_ {c:Code} {e:iB} (h:Ef (some c)=some e):(∃id,c= .exit id∧e= .exit id)∨(c= .ret∧e= .ret):=by
 cases c<;>simp [Ef] at h
 · exact .inl ⟨_,rfl,h.symm⟩
 · exact .inr ⟨rfl,h.symm⟩
theorem Gc {call:bh} (dp:iK E call) {f:Operand} {ps:Array Tmp} {as_ bd:Code} {s s':St} {e:iB} (h:lN E call f ps as_ bd s= .ok e s')
 {φ:Ph} {a:Act} {w:World} {b:Frame} {k:List Item} {K:Bool→List Frame} (hs:SR φ s.ts s.ds a) (ok:OK E φ s.h w) (gG:nJ φ b K s.rc) (DA:(E.P.funcs[b.fn]?).isSome=true):
 qi E φ s.h w b K k (lone (b.atR a (.code (.rangeFunc f ps as_ bd)::k)) (cur K s.rc) w) e s':=by
 unfold lN at h
 split at h
 · rename_i g first captured hf
   split at h
   · rename_i dn h1 Y0 ho
     split at h
     · rename_i h2 hn
       have hfv:=nH ok.gl hs.ts hf
       generalize lA:a.eval f=cv at hfv
       obtain ⟨Vy,iW,rfl,hfs,hcs⟩:=hfv.wD
       obtain ⟨φ1,w1,ld,mark,ack,ID,fr1,hld,so,vw⟩:=IG ho hs ok gG ps as_ bd
       obtain ⟨Bu,Zj,VH⟩:=ID.made (O:= .loop {state:= .ready,pending:=none,fn:=b.fn,tmps:=a.tmps,params:=ps,assign:=as_,body:=bd,defers:=ld.eg}) hn
        ⟨rfl,_,rfl,⟨rfl,rfl,hs.ts.mono (Ph.le_trans ack (fun j m hm=>by
         unfold Ph.add;split
         · rename_i e;subst e;exact absurd (ID.Aw _ _ hm) (Nat.lt_irrefl _)
         · exact hm)),rfl,rfl,rfl,⟨ld,by
         unfold Ph.add;split
         · rename_i e;subst e;exact absurd (ID.Aw _ _ hld) (Nat.lt_irrefl _)
         · exact hld,rfl⟩,DA⟩⟩
       have hle:=Ph.le_trans ack VH
       have iH:(φ1.add h1.nx ⟨w1.heap.size,0,0⟩) h1.nx=some ⟨w1.heap.size,0,0⟩:=by simp [Ph.add]
       generalize hφ2:φ1.add h1.nx ⟨w1.heap.size,0,0⟩=φ2 at Bu Zj VH hle iH
       have hl:LR φ2 (first++[.cE h1.nx]++captured) (Vy.toList++[.func (.yield w1.heap.size) #[] #[]]++iW.toList):=
        ((hfs.mono hle).append (.cons (.yield iH) (.nil φ2))).append (hcs.mono hle)
       have DM:∀w',(resolve a.eval (rangeCall f w1.heap.size) 0).run E.P w'= .ok {target:= .fn (.func g) iW,args:=Vy++ #[.func (.yield w1.heap.size) #[] #[]]} w':=fun w'=>by
        have Q':a.eval (.const (.func (.yield w1.heap.size) #[] #[]))= .func (.yield w1.heap.size) #[] #[]:=rfl
        simp [resolve,Deferred.ofValue,lA,Q']
       have start:∀n st,oJ E φ2 (w1.alloc (.loop {state:= .ready,pending:=none,fn:=b.fn,tmps:=a.tmps,params:=ps,assign:=as_,body:=bd,defers:=ld.eg})) (.fn g) (Vy.toList++[.func (.yield w1.heap.size) #[] #[]]++iW.toList) n st→
        step E.P (lone (b.atR a (.code (.rangeFunc f ps as_ bd)::k)) (cur K s.rc) w)= .next (lone st (b.atR {a with defers:=mark++a.defers} (.inRangeFunc w1.heap.size::k)::cur K s.rc)
         (w1.alloc (.loop {state:= .ready,pending:=none,fn:=b.fn,tmps:=a.tmps,params:=ps,assign:=as_,body:=bd,defers:=ld.eg}))):=fun n st hp=>by
        cases hp with
        | fn _ _ hr=>
          have hinv:(invoke (Target.fn (.func g) iW) (Vy++ #[.func (.yield w1.heap.size) #[] #[]])).run E.P (w1.alloc (.loop {state:= .ready,pending:=none,fn:=b.fn,tmps:=a.tmps,params:=ps,assign:=as_,body:=bd,defers:=ld.eg}))=
           .ok (.enter g (Vy.toList++[Value.func (.yield w1.heap.size) #[] #[]]++iW.toList).toArray) (w1.alloc (.loop {state:= .ready,pending:=none,fn:=b.fn,tmps:=a.tmps,params:=ps,assign:=as_,body:=bd,defers:=ld.eg})):=by
           have e:(Vy.toList++[Value.func (.yield w1.heap.size) #[] #[]]++iW.toList).toArray=Vy++ #[Value.func (.yield w1.heap.size) #[] #[]]++iW:=by
            apply Array.toList_inj.1;simp
           rw[e] at hr ⊢
           simpa [invoke] using hr
          exact stepR_rangeFunc vw (DM _) hinv
       split at h
       ·
        rename_i v h3 hc
        obtain ⟨n,st,hp,f'⟩:=dp.ret _ _ _ _ _ hc φ2 _ _ Bu trivial hl
        obtain ⟨φ3,w3,v',_,ok3,U6,iY⟩:=f' (b.atR {a with defers:=mark++a.defers} (.inRangeFunc w1.heap.size::k)) (cur K s.rc)
        rw[finish_atR_inRangeFunc] at iY
        split at h
        · simp at h
        · rename_i st' ir kz qM uF Vi Vj Dy hg
          split at h
          · rename_i e1 hj
            simp at h;obtain ⟨rfl,rfl⟩:=h
            have Qk:=U6.ext _ _ iH
            obtain ⟨_,r,hr,yR⟩:=ok3.live _ _ _ hg Qk
            have acm:r.state≠ .busy:=by rw[yR.state];intro e;subst e;exact Dy rfl
            obtain ⟨ok4,fr4⟩:=ok3.Gb (o':= .loop .exhausted ir kz qM uF Vi Vj) hg rfl Qk (O:= .loop {r with state:= .exhausted}) ⟨rfl,_,rfl,⟨rfl,yR.pending,yR.tmps,yR.params,yR.assign,yR.body,yR.defers,yR.fn⟩⟩
            obtain ⟨W4,hW4⟩:∃W4,W4=w3.putObj w1.heap.size (.loop {r with state:= .exhausted}):=⟨_,rfl⟩
            have ok4:OK E φ3 (h3.put h1.nx (some (.loop .exhausted ir kz qM uF Vi Vj))) W4:=by rw[hW4];exact ok4
            have fr4:Fr φ3 h3 w3 φ3 (h3.put h1.nx (some (.loop .exhausted ir kz qM uF Vi Vj))) W4:=by rw[hW4];exact fr4
            have acn:=stepR_endRangeFunc (P:=E.P) (b:=b) (a:={a with defers:=mark++a.defers}) (k:=k) (cs:=cur K s.rc) (run_endLoop hr acm)
            rw[←hW4] at acn
            have ou:=((fr1.trans Zj).trans U6).trans fr4
            have jC:=Steps.trans (.head (start n st hp) iY) (.one acn)
            rw[yR.pending] at jC
            have Zo:=Ph.le_trans VH U6.ext
            have Ra:=Ph.le_trans hle U6.ext
            cases ir with
            | none=>
              simp [Ef] at hj;subst hj
              exact ⟨φ3,_,_,_,.normal,so.mono Zo,ok4,ou,gG.mono Ra,jC⟩
            | some c=>
              rcases Q_ hj with ⟨id,rfl,rfl⟩ | ⟨rfl,rfl⟩
              · exact ⟨φ3,_,_,_,.exit id,so.mono Zo,ok4,ou,gG.mono Ra,k,rfl,jC⟩
              · exact ⟨φ3,_,_,_,.ret,so.mono Zo,ok4,ou,gG.mono Ra,k,jC⟩
          · simp at h
        · simp at h
       ·
        rename_i v h3 hc
        simp at h;obtain ⟨rfl,rfl⟩:=h
        obtain ⟨n,st,hp,f'⟩:=dp.panic _ _ _ _ _ hc φ2 _ _ Bu trivial hl
        obtain ⟨φ3,w3,v',hv,ok3,U6,iY⟩:=f' (b.atR {a with defers:=mark++a.defers} (.inRangeFunc w1.heap.size::k)) (cur K s.rc)
        rw[Frame.raise_atR] at iY
        exact ⟨φ3,w3,_,_,.panic v v' hv,so.mono (Ph.le_trans VH U6.ext),ok3,(fr1.trans Zj).trans U6,gG.mono (Ph.le_trans hle U6.ext),_,.head (start n st hp) iY⟩
       · simp at h
     · simp at h
   · simp at h
 · simp at h
end Go.Ab
end
section
namespace Go.Ab
variable {E:Env}
theorem vD (hE:kM E) {call:bh} (dp:iK E call) {ops:Array Oper}:∀{l:List Oper} {is:List Nat} (_:is.length=l.length) (_:∀(j i:Nat),is[j]? =some i→l[j]? =ops[i]?) {s s':St} {e:iB} (_:ku E call ops l s= .ok e s')
 {φ:Ph} {a:Act} {w:World} {b:Frame} {k:List Item} {K:Bool→List Frame} (_:SR φ s.ts s.ds a) (_:OK E φ s.h w) (_:nJ φ b K s.rc),
 qi E φ s.h w b K k (lone (b.atR a (.inRegion ops is::k)) (cur K s.rc) w) e s'
 | [],is,hl,hi,s,s',e,h,φ,a,w,b,k,K,hs,ok,gG=>by
   cases is with
   | cons _ _=>simp at hl
   | nil=>
     simp [ku] at h;obtain ⟨rfl,rfl⟩:=h
     exact ⟨φ,w,a,_,.normal,hs,ok,Fr.refl _ _ _,gG,.one stepR_region_end⟩
 | o::l,is,hl,hi,s,s',e,h,φ,a,w,b,k,K,hs,ok,gG=>by
   cases is with
   | nil=>simp at hl
   | cons i is=>
     have ho:ops[i]? =some o:=by have:=hi 0 i (by simp);simpa using this.symm
     have U4:is.length=l.length:=by simpa using hl
     have FN:∀(j i':Nat),is[j]? =some i'→l[j]? =ops[i']? :=fun j i' hj=>by have:=hi (j+1) i' (by simpa using hj);simpa using this
     simp only[ku] at h
     have U5:=vy (ops:=ops) hs.ts o
     split at h
     · rename_i hw
       rw[←U5] at hw
       split at h
       · rename_i s1 qb
         obtain ⟨φ1,w1,a1,e1,x1,x2,x3,x4,x5,x6⟩:=(En hE dp ho qb hs ok gG hw (rest:=is) (k:=k)).is
         cases x1
         exact ((vD hE dp U4 FN h x2 x3 x5).of_steps x6).later x4
       · rename_i eF
         obtain ⟨φ1,w1,a1,e1,x1,x2,x3,x4,x5,x6⟩:=(En hE dp ho h hs ok gG hw (rest:=is) (k:=k)).is
         cases x1 with
         | normal=>exact (eF _ h).elim
         | exit=>exact x6.elim
         | ret=>exact x6.elim
         | panic v v' hv=>exact ⟨φ1,w1,a1,_,.panic v v' hv,x2,x3,x4,x5,x6⟩
     · rename_i hw
       have qW:SR φ (dN s.ts o.dst AV.undef) s.ds (a.put o.dst undef):=hs.put o.dst (VR.undef φ)
       refine (vD hE dp U4 FN h qW ok gG).of_steps (.one ?_)
       have:=stepR_op_skip (P:=E.P) (b:=b) (a:=a) (k:=k) (cs:=cur K s.rc) (w:=w) (ops:=ops) (i:=i) (rest:=is) (by rw[ho];simp;rw[U5];simpa using hw)
       rw[this,ho];rfl
set_option maxHeartbeats 1000000 in
theorem vE (hE:kM E) {call:bh} (dp:iK E call):∀(n:Nat) (c:Code) {s s':St} {e:iB} (_:exec E call n c s= .ok e s')
 {φ:Ph} {a:Act} {w:World} {b:Frame} {k:List Item} {K:Bool→List Frame} (_:SR φ s.ts s.ds a) (_:OK E φ s.h w) (_:nJ φ b K s.rc) (_:(E.P.funcs[b.fn]?).isSome=true),
 qi E φ s.h w b K k (lone (b.atR a (.code c::k)) (cur K s.rc) w) e s'∧∀c',c= .loop c'→qi E φ s.h w b K k (lone (b.atR a (.code c':: .inLoop c'::k)) (cur K s.rc) w) e s':=by
 intro n
 induction n with
 | zero=>intro c s s' e h;simp [exec] at h
 | succ n ih2=>
   have ih:∀(c:Code) {s s':St} {e:iB} (_:exec E call n c s= .ok e s')
    {φ:Ph} {a:Act} {w:World} {b:Frame} {k:List Item} {K:Bool→List Frame} (_:SR φ s.ts s.ds a) (_:OK E φ s.h w) (_:nJ φ b K s.rc) (_:(E.P.funcs[b.fn]?).isSome=true),
    qi E φ s.h w b K k (lone (b.atR a (.code c::k)) (cur K s.rc) w) e s':=fun c _ _ _ h _ _ _ _ _ _ hs ok gG DA=>(ih2 c h hs ok gG DA).1
   intro c s s' e h φ a w b k K hs ok gG DA
   have XU:∀c',c= .loop c'→qi E φ s.h w b K k (lone (b.atR a (.code c':: .inLoop c'::k)) (cur K s.rc) w) e s':=by
    rintro c rfl
    simp only[exec] at h
    split at h
    · rename_i s1 h1
      obtain ⟨φ1,w1,a1,e1,x1,x2,x3,x4,x5,x6⟩:=(ih c h1 hs ok gG DA (k:= .inLoop c::k)).is
      cases x1
      exact (((ih2 (.loop c) h x2 x3 x5 DA).2 c rfl).of_steps (Steps.trans x6 (.one stepR_inLoop))).later x4
    · rename_i eF
      obtain ⟨φ1,w1,a1,e1,x1,x2,x3,x4,x5,x6⟩:=(ih c h hs ok gG DA (k:= .inLoop c::k)).is
      refine ⟨φ1,w1,a1,e1,x1,x2,x3,x4,x5,.pass (x:= .inLoop c) (fun _=>rfl) ?_ x6⟩
      cases x1 with
      | normal=>exact (eF _ h).elim
      | exit=>simp
      | ret=>simp
      | panic=>simp
   refine ⟨?_,XU⟩
   cases c with
   | skip=>simp [exec] at h;obtain ⟨rfl,rfl⟩:=h;exact ⟨φ,w,a,_,.normal,hs,ok,Fr.refl _ _ _,gG,.one stepR_skip⟩
   | label l=>simp [exec] at h;obtain ⟨rfl,rfl⟩:=h;exact ⟨φ,w,a,_,.normal,hs,ok,Fr.refl _ _ _,gG,.one stepR_label⟩
   | ret=>simp [exec] at h;obtain ⟨rfl,rfl⟩:=h;exact ⟨φ,w,a,_,.ret,hs,ok,Fr.refl _ _ _,gG,k,Steps.refl _ _⟩
   | exit id=>simp [exec] at h;obtain ⟨rfl,rfl⟩:=h;exact ⟨φ,w,a,_,.exit id,hs,ok,Fr.refl _ _ _,gG,k,rfl,Steps.refl _ _⟩
   | seq x y=>
     simp only[exec] at h
     split at h
     · rename_i s1 h1
       obtain ⟨φ1,w1,a1,e1,x1,x2,x3,x4,x5,x6⟩:=(ih x h1 hs ok gG DA (k:= .code y::k)).is
       cases x1
       exact ((ih y h x2 x3 x5 DA).of_steps (.head stepR_seq x6)).later x4
     · rename_i eF
       obtain ⟨φ1,w1,a1,e1,x1,x2,x3,x4,x5,x6⟩:=(ih x h hs ok gG DA (k:= .code y::k)).is
       refine ⟨φ1,w1,a1,e1,x1,x2,x3,x4,x5,.of_steps (.one stepR_seq) (.pass (x:= .code y) (fun _=>rfl) ?_ x6)⟩
       cases x1 with
       | normal=>exact (eF _ h).elim
       | exit=>simp
       | ret=>simp
       | panic=>simp
   | cond x y z=>
     simp only[exec] at h
     split at h
     · rename_i hx
       have h1:=nH ok.gl hs.ts hx
       generalize lA:a.eval x=cv at h1
       cases h1
       exact (ih y h hs ok gG DA).of_steps (.one (stepR_cond lA))
     · rename_i hx
       have h1:=nH ok.gl hs.ts hx
       generalize lA:a.eval x=cv at h1
       cases h1
       exact (ih z h hs ok gG DA).of_steps (.one (stepR_cond lA))
     · simp at h
   | block id c=>
     simp only[exec] at h
     split at h
     · rename_i P7 s1 h1
       obtain ⟨φ1,w1,a1,e1,x1,x2,x3,x4,x5,x6⟩:=(ih c h1 hs ok gG DA (k:= .inBlock id::k)).is
       cases x1
       split at h
       · rename_i hid
         simp at h;obtain ⟨rfl,rfl⟩:=h
         obtain ⟨todo,ht,iY⟩:=x6
         exact ⟨φ1,w1,a1,_,.normal,x2,x3,x4,x5,.head stepR_block (Steps.trans iY (.one (stepR_exit (by rw[ht];simp [exitTo,hid]))))⟩
       · rename_i hid
         simp at h;obtain ⟨rfl,rfl⟩:=h
         obtain ⟨todo,ht,iY⟩:=x6
         refine ⟨φ1,w1,a1,_,.exit P7,x2,x3,x4,x5,todo,?_,.head stepR_block iY⟩
         have:(id==P7)=false:=by simp;exact fun h=>hid h.symm
         rw[ht];simp [exitTo,this]
     · rename_i eF
       obtain ⟨φ1,w1,a1,e1,x1,x2,x3,x4,x5,x6⟩:=(ih c h hs ok gG DA (k:= .inBlock id::k)).is
       cases x1 with
       | normal=>exact ⟨φ1,w1,a1,_,.normal,x2,x3,x4,x5,.head stepR_block (Steps.trans x6 (.one stepR_inBlock))⟩
       | exit P7=>exact (eF _ _ h).elim
       | ret=>exact ⟨φ1,w1,a1,_,.ret,x2,x3,x4,x5,.of_steps (e:= .ret) (k:=k) (.one stepR_block) x6⟩
       | panic v v' hv=>exact ⟨φ1,w1,a1,_,.panic v v' hv,x2,x3,x4,x5,.of_steps (e:= .panic _) (k:=k) (.one stepR_block) x6⟩
   | loop c=>exact (XU c rfl).of_steps (.one stepR_loop)
   | region id ops draw=>
     simp only[exec] at h
     cases draw with
     | false=>
       have qb:=vD hE dp (ops:=ops) (l:=ops.toList) (is:=List.range ops.size) (by simp) (fun j i hj=>by
        have:=List.getElem?_eq_some_iff.1 hj
        obtain ⟨h1,h2⟩:=this
        simp at h1 h2;subst h2;simp) h hs ok gG (b:=b) (k:=k)
       exact qb.of_steps (.one stepR_region)
     | true=>
       obtain ⟨h1,h2,⟨rfl,φ',a',w',x1,x2,x3,x4,x5⟩ | ⟨v,rfl,hp⟩⟩:=IE hE hE.mixed dp h hs ok gG (b:=b) (k:=k) id
       · refine ⟨φ',w',a',_,.normal,⟨x1,by rw[h2,x2];exact hs.ds.mono x4.ext⟩,x3,x4,by rw[h1];exact gG.mono x4.ext,?_⟩
         rw[h1];exact x5
       · obtain ⟨φ',a',w',v',todo,x0,x1,x2,x3,x4,x5⟩:=hp.is
         refine ⟨φ',w',a',_,.panic v v' x0,⟨x1,by rw[h2,x2];exact hs.ds.mono x4.ext⟩,x3,x4,by rw[h1];exact gG.mono x4.ext,todo,?_⟩
         rw[h1];exact x5
   | rangeFunc f ps a1 b1=>
     simp only[exec] at h
     exact Gc dp h hs ok gG DA
   | scope c=>
     simp only[exec] at h
     have s1:∀{m},Steps E.P (lone (b.atR a (.code c:: .inScope c::k)) (cur K s.rc) w) m→Steps E.P (lone (b.atR a (.code (.scope c)::k)) (cur K s.rc) w) m:=fun q=> .head (step_lone_go (by simp [stepG,stepG.exec,Frame.atR])) q
     obtain ⟨φ1,w1,a1,e1,x1,x2,x3,x4,x5,x6⟩:=(ih c h hs ok gG DA (k:= .inScope c::k)).is
     cases x1 with
     | normal=>exact ⟨φ1,w1,a1,_,.normal,x2,x3,x4,x5,s1 (Steps.trans x6 (.one (step_lone_go (by simp [stepG,stepG.exec,Frame.atR]))))⟩
     | exit P7=>exact ⟨φ1,w1,a1,_,.exit P7,x2,x3,x4,x5,.of_steps (e:= .exit P7) (k:=k) (s1 (Steps.refl _ _)) (.pass (x:= .inScope c) (fun _=>rfl) (by simp) x6)⟩
     | ret=>exact ⟨φ1,w1,a1,_,.ret,x2,x3,x4,x5,.of_steps (e:= .ret) (k:=k) (s1 (Steps.refl _ _)) (.pass (x:= .inScope c) (fun _=>rfl) (by simp) x6)⟩
     | panic v v' hv=>exact ⟨φ1,w1,a1,_,.panic v v' hv,x2,x3,x4,x5,.of_steps (e:= .panic _) (k:=k) (s1 (Steps.refl _ _)) (.pass (x:= .inScope c) (fun _=>rfl) (by simp) x6)⟩
   | goto l=>simp [exec] at h
   | refuse why=>simp [exec] at h
end Go.Ab
end
section
namespace Go.Ab
variable {E:Env}
theorem IH {φ:Ph} {h:aA} {w:World} (ok:OK E φ h w) {ts:List AV} {tmps:Array Value} (ht:LR φ ts tmps.toList):∀{l:List ResultVar} {vs:List AV} (_:jL E h ts l=some vs),
 ∃qX,LR φ vs qX∧(l.mapM (fun | .tmp t=>pure (tmps.getD t undef) | .cell a t=>do loadVar t (←asAddr (tmps.getD a undef)):ResultVar→Sem Value)).run E.P w= .ok qX w
 | [],vs,h=>by simp [jL] at h;subst h;exact ⟨[],LR.nil φ,rfl⟩
 | r::rest,vs,h=>by
   have gL:∀t,VR φ (ts.getD t AV.undef) (tmps.getD t undef):=fun t=>by
    have:=ht.getD (VR.undef φ) t
    rw[show tmps.getD t undef=tmps.toList.getD t undef by simp [Array.getD_eq_getD_getElem?,List.getD]]
    exact this
   simp only[jL] at h
   split at h
   · simp at h
   · rename_i v hv
     split at h
     · simp at h
     · rename_i vs0 Ih
       simp at h;subst h
       obtain ⟨qX,hl,hr⟩:=IH ok ht Ih
       cases r with
       | tmp t=>
         simp at hv;subst hv
         refine ⟨tmps.getD t undef::qX,.cons (by simpa using gL t) hl,?_⟩
         simp only[List.mapM_cons,Sem.run_bind,Sem.run_pure,Result.andThen_ok,hr]
       | cell ad t=>
         simp only at hv
         obtain ⟨x',hx,f'⟩:=Ek ok (gL ad) hv
         refine ⟨x'::qX,.cons hx hl,?_⟩
         have hr0:=f' w rfl
         have:(do loadVar t (←asAddr (tmps.getD ad undef)):Sem Value).run E.P w= .ok x' w:=by
          have hv2:=gL ad
          unfold bk at hv
          split at hv
          · rename_i i o heq
            rw[heq] at hv2
            generalize hq:tmps.getD ad undef=q at hv2 hr0
            cases hv2
            simpa [Instr.loadAt,Instr.sureAddr,asAddr] using hr0
          · simp at hv
         simp only[List.mapM_cons]
         rw[Sem.run_bind,this]
         simp only[Sem.run_bind,Sem.run_pure,Result.andThen_ok,hr]
theorem sL {φ:Ph} {h:aA} {w:World} (ok:OK E φ h w) {ts:List AV} {tmps:Array Value} (ht:LR φ ts tmps.toList) {fn:Func} {vs:List AV} (hv:jL E h ts fn.results.toList=some vs):
 ∃v',VR φ (fR vs) v'∧(results fn tmps).run E.P w= .ok v' w:=by
 obtain ⟨qX,hl,hr⟩:=IH ok ht hv
 have hm:(fn.results.mapM (fun | .tmp t=>pure (tmps.getD t undef) | .cell a t=>do loadVar t (←asAddr (tmps.getD a undef)):ResultVar→Sem Value)).run E.P w= .ok qX.toArray w:=by
  rw[Array.mapM_eq_mapM_toList]
  show Sem.run E.P (Functor.map List.toArray (_:Sem (List Value))) w=_
  rw[Sem.run_map]
  refine (congrArg (fun r=>Result.andThen r _) hr).trans ?_
  rfl
 refine ⟨if h:qX.toArray.size=1 then qX.toArray[0] else .tuple qX.toArray,?_,?_⟩
 · cases vs with
   | nil=>rw[hl.gE];exact VR.tuple' (LR.nil φ)
   | cons v vs=>
     obtain ⟨y,ys,rfl,hy,uG⟩:=hl.cu
     cases vs with
     | nil=>rw[uG.gE];simpa [fR] using hy
     | cons v2 vs2=>
       obtain ⟨y2,ys2,rfl,hy2,afo⟩:=uG.cu
       have:¬(y::y2::ys2).toArray.size=1:=by simp
       rw[dif_neg this]
       exact VR.tuple' (.cons hy (.cons hy2 afo))
 · unfold results
   rw[Sem.run_bind]
   refine (congrArg (fun r=>Result.andThen r _) hm).trans ?_
   rfl
def bare (f:FuncId) (kind:CallKind):Frame:={fn:=f,tmps:= #[],todo:=[],defers:=[],mode:= .run,kind:=kind,roundOf:=none}
theorem Rb {P:Program} {f:FuncId} {fn:Func} {c:Code} (hf:P.funcs[f]? =some fn) (hb:fn.body=some c) (vs:List Value) (kind:CallKind):
 Frame.enter P f vs.toArray kind=(bare f kind).atR {tmps:=vs.toArray++Array.replicate (fn.ntmps - vs.length) undef,defers:=[]} [.code c]:=by
 simp [Frame.enter,Frame.atR,hf,hb,bare]
theorem sM (hE:kM E) {call:bh} (dp:iK E call) {fuel:Nat} {f:FuncId} {fn:Func} {c:Code} (hf:E.P.funcs[f]? =some fn) (hb:fn.body=some c) {args:List AV} {h:aA} {rc:RC} {e:iB} {s':St}
 (gB:mZ E call fuel fn c args h rc= .ok e s') {φ:Ph} {w:World} {vs:List Value} (ok:OK E φ h w) (hl:LR φ args vs) {kind:CallKind} {K:Bool→List Frame} (gG:nJ φ (bare f kind) K rc):
 qi E φ h w (bare f kind) K [] (lone (Frame.enter E.P f vs.toArray kind) (cur K rc) w) e s':=by
 rw[Rb hf hb]
 refine (vE hE dp fuel c (s:={ts:=args++List.replicate (fn.ntmps - args.length) AV.undef,h,ds:=[],rc}) gB (a:={tmps:=vs.toArray++Array.replicate (fn.ntmps - vs.length) undef,defers:=[]}) (b:=bare f kind) (k:=[]) ⟨?_,trivial⟩ ok gG (by show (E.P.funcs[f]?).isSome=true;rw[hf];rfl)).1
 have:=hl.append (LR.replicate (VR.undef φ) (fn.ntmps - args.length))
 rw[hl.1] at this
 simpa [hl.1] using this
theorem enters {E:Env} (hE:kM E) {f:FuncId} {fn:Func} {c:Code} (hf:E.P.funcs[f]? =some fn) (hb:fn.body=some c) (vs:Array Value) (w:World):(callFunc f vs).run E.P w= .ok (.enter f vs) w:=by
 have hn:=hE.names f fn hf
 have:(fn.name== "runtime.NumGoroutine")=false:=by rw[beq_eq_false_iff_ne];exact hn
 simp only[callFunc,Sem.run_bind,run_program,Result.andThen_ok,hf,this,Bool.false_eq_true,if_false,hb,Option.isNone_some,Sem.run_pure]
noncomputable def iG (E:Env) (call:bh) (fuel:Nat) (g:FuncId) (as_:List AV) (h:aA) (rc:RC):Option (aA×RC):=match E.P.funcs[g]? with
 | none=>none
 | some fg=>match fg.body with
   | none=>none
   | some bg=>match mZ E call fuel fg bg as_ h rc with
     | .ok .normal s'=>if s'.ds.isEmpty&&(jL E s'.h s'.ts fg.results.toList).isSome then some (s'.h,s'.rc) else none
     | .ok .ret s'=>if s'.ds.isEmpty&&(jL E s'.h s'.ts fg.results.toList).isSome then some (s'.h,s'.rc) else none
     | _=>none
theorem sN {φ:Ph} {ds:List Deferred} (h:XL φ [] ds):ds=[]:=by cases ds with | nil=>rfl | cons _ _=>exact h.elim
def re (c:Bool→Frame):RC→Frame
 | .done=>{c true with mode:=settle (c true).mode}
 | _=>{c false with mode:=settle (c false).mode}
theorem sO (hE:kM E) {call:bh} (dp:iK E call) {fuel:Nat} {g:FuncId} {as_:List AV} {h h':aA} {rc VI:RC} (hd:iG E call fuel g as_ h rc=some (h',VI)) {φ:Ph} {w:World} {vs:List Value}
 (ok:OK E φ h w) (hl:LR φ as_ vs) {c:Bool→Frame} {cs:List Frame} (gG:nJ φ (bare g .deferred) (fun x=>c x::cs) rc):
 ∃φ' w',OK E φ' h' w'∧Fr φ h w φ' h' w'∧nJ φ' (bare g .deferred) (fun x=>c x::cs) VI∧(callFunc g vs.toArray).run E.P w= .ok (.enter g vs.toArray) w∧
  Steps E.P (lone (Frame.enter E.P g vs.toArray .deferred) (cur (fun x=>c x::cs) rc) w)
   (lone (re c VI) cs w'):=by
 unfold iG at hd
 split at hd
 · simp at hd
 rename_i fg hf
 split at hd
 · simp at hd
 rename_i bg hb
 have key:∀(s':St) (e:iB),(e= .normal∨e= .ret)→mZ E call fuel fg bg as_ h rc= .ok e s'→s'.ds.isEmpty=true→(jL E s'.h s'.ts fg.results.toList).isSome=true→s'.h=h'→s'.rc=VI→
  ∃φ' w',OK E φ' h' w'∧Fr φ h w φ' h' w'∧nJ φ' (bare g .deferred) (fun x=>c x::cs) VI∧(callFunc g vs.toArray).run E.P w= .ok (.enter g vs.toArray) w∧
  Steps E.P (lone (Frame.enter E.P g vs.toArray .deferred) (cur (fun x=>c x::cs) rc) w)
   (lone (re c VI) cs w'):=by
  intro s' e he gB K7 DM hh hr
  subst hh;subst hr
  obtain ⟨φ',w',a',e',x1,x2,x3,x4,x5,x6⟩:=(sM hE dp hf hb gB ok hl (kind:= .deferred) gG).is
  refine ⟨φ',w',x3,x4,x5,enters hE hf hb _ w,?_⟩
  obtain ⟨qX,afp⟩:=Option.isSome_iff_exists.1 DM
  obtain ⟨v',_,f'⟩:=sL x3 x2.ts afp
  have hdn:a'.defers=[]:=sN (by have:=x2.ds;rw[List.isEmpty_iff.1 K7] at this;exact this)
  have fin:∀todo,step E.P (lone {(bare g .deferred).atR a' todo with mode:= .returning} (cur (fun x=>c x::cs) s'.rc) w')=
   .next (lone (re c s'.rc) cs w'):=fun todo=>by
   have zE:({(bare g .deferred).atR a' todo with mode:= .returning}:Frame).going E.P w' (.returned v'):=⟨rfl,hdn,fg,hf,f'⟩
   have hk:({(bare g .deferred).atR a' todo with mode:= .returning}:Frame).kind= .deferred:=rfl
   cases aih:s'.rc with
   | no=>exact step_going_returned (c:=c false) (cs:=cs) hk zE
   | ir v=>exact step_going_returned (c:=c false) (cs:=cs) hk zE
   | done=>exact step_going_returned (c:=c true) (cs:=cs) hk zE
   | sm l=>exact step_going_returned (c:=c false) (cs:=cs) hk zE
  rcases he with rfl | rfl
  · cases x1
    exact Steps.trans x6 (.head (stepR_end rfl) (.one (fin [])))
  · cases x1
    obtain ⟨todo,hs⟩:=x6
    exact Steps.trans hs (.head (stepR_ret rfl) (.one (fin _)))
 split at hd
 · rename_i s' gB
   split at hd
   · rename_i hc
     simp at hd;obtain ⟨rfl,rfl⟩:=hd
     simp only[Bool.and_eq_true] at hc
     exact key s' .normal (.inl rfl) gB hc.1 hc.2 rfl rfl
   · simp at hd
 · rename_i s' gB
   split at hd
   · rename_i hc
     simp at hd;obtain ⟨rfl,rfl⟩:=hd
     simp only[Bool.and_eq_true] at hc
     exact key s' .ret (.inr rfl) gB hc.1 hc.2 rfl rfl
   · simp at hd
 · simp at hd
theorem kh (hE:kM E) {call:bh} (dp:iK E call) {fuel:Nat}:∀(ds:List oB) {p p':Option AV} {h h':aA} (_:cN (iG E call fuel) ds p h=some (p',h')) {φ:Ph} {w:World} {fr:Frame} {cs:List Frame}
 (_:OK E φ h w) (_:XL φ ds fr.defers) (_:(p=none∧fr.mode= .returning)∨∃v v',p=some v∧VR φ v v'∧fr.mode= .panicking [{v:=v',recovered:=false}]),
 ∃φ' w' m',OK E φ' h' w'∧Fr φ h w φ' h' w'∧((p'=none∧m'= .returning)∨∃v v',p'=some v∧VR φ' v v'∧m'= .panicking [{v:=v',recovered:=false}])∧
  Steps E.P (lone fr cs w) (lone {fr with defers:=[],mode:=m'} cs w')
 | [],p,p',h,h',hu,φ,w,fr,cs,ok,K7,hp=>by
   simp [cN] at hu;obtain ⟨rfl,rfl⟩:=hu
   have:=sN K7
   refine ⟨φ,w,fr.mode,ok,Fr.refl _ _ _,?_,?_⟩
   · exact hp
   · rw[←this];exact Steps.refl _ _
 | .pj r::ds,p,p',h,h',hu,φ,w,fr,cs,ok,K7,hp=>by
   cases Zp:fr.defers with
   | nil=>rw[Zp] at K7;exact K7.elim
   | cons d' yM=>
   rw[Zp] at K7
   obtain ⟨⟨l,hl,VJ⟩,Rc⟩:=K7
   have Re:fr.mode≠ .run:=by
    rcases hp with ⟨_,hm⟩ | ⟨v,v',_,_,hm⟩<;>rw[hm]<;>simp
   simp only[cN] at hu
   split at hu
   · rename_i hg
     obtain ⟨_,hb⟩:=ok.live _ _ _ hg hl
     obtain ⟨ID,f1⟩:=ok.shut hg rfl hl (.deferred none)
     have st1:=step_collected (P:=E.P) (cs:=cs) Re Zp VJ (run_takeDeferred hb)
     obtain ⟨φ2,w2,m2,Bu,f2,Rf,K9⟩:=kh hE dp ds hu (fr:={fr with defers:=[]++yM}) (cs:=cs) ID (by simpa using Rc) hp
     exact ⟨φ2,w2,m2,Bu,f1.trans f2,Rf,.head st1 K9⟩
   · simp at hu
 | .call df ahr::ds,p,p',h,h',hu,φ,w,fr,cs,ok,K7,hp=>by
   cases Zp:fr.defers with
   | nil=>rw[Zp] at K7;exact K7.elim
   | cons d' yM=>
   rw[Zp] at K7
   obtain ⟨⟨cap,VJ,Bi⟩,Rc⟩:=K7
   have Re:fr.mode≠ .run:=by
    rcases hp with ⟨_,hm⟩ | ⟨v,v',_,_,hm⟩<;>rw[hm]<;>simp
   have hinv:∀(Ql:(callFunc df (d'.args++cap).toList.toArray).run E.P w= .ok (.enter df (d'.args++cap).toList.toArray) w),(invoke d'.target d'.args).run E.P w= .ok (.enter df (d'.args++cap).toList.toArray) w:=fun Ql=>by
    have e:(d'.args++cap).toList.toArray=d'.args++cap:=Array.toArray_toList ..
    rw[e] at Ql ⊢
    rw[VJ];exact Ql
   have st1:∀(Ql:(callFunc df (d'.args++cap).toList.toArray).run E.P w= .ok (.enter df (d'.args++cap).toList.toArray) w),step E.P (lone fr cs w)= .next (lone (Frame.enter E.P df (d'.args++cap).toList.toArray .deferred) ({fr with defers:=yM}::cs) w):=fun Ql=>step_defer Re Zp VJ (hinv Ql)
   cases p with
   | none=>
     simp only[cN] at hu
     split at hu
     · rename_i h1 rc1 hcd
       have hm:fr.mode= .returning:=by
        rcases hp with ⟨_,hm⟩ | ⟨v,v',e,_,_⟩
        · exact hm
        · simp at e
       obtain ⟨φ1,w1,ID,f1,_,Ql,iY⟩:=sO hE dp hcd ok Bi (c:=fun _=>{fr with defers:=yM}) (cs:=cs) ⟨rfl,fun Kr hk=>by simp [tryRecover,show Kr.kind= .deferred from hk,hm]⟩
       have qh:re (fun _=>{fr with defers:=yM}) rc1={fr with defers:=yM}:=by
        cases rc1<;>simp [re,hm,settle]
       rw[qh] at iY
       obtain ⟨φ2,w2,m2,Bu,f2,Rf,K9⟩:=kh hE dp ds hu (fr:={fr with defers:=yM}) (cs:=cs) ID (Rc.mono f1.ext) (.inl ⟨rfl,hm⟩)
       exact ⟨φ2,w2,m2,Bu,f1.trans f2,Rf,.head (st1 Ql) (Steps.trans iY K9)⟩
     · simp at hu
   | some v=>
     obtain ⟨v',hv,hm⟩:∃v',VR φ v v'∧fr.mode= .panicking [{v:=v',recovered:=false}]:=by
      rcases hp with ⟨e,_⟩ | ⟨v1,v',e,hv,hm⟩
      · simp at e
      · simp at e;subst e;exact ⟨v',hv,hm⟩
     have gG:nJ φ (bare df .deferred) (fun x=>(if x then {fr with defers:=yM,mode:= .panicking [{v:=v',recovered:=true}]} else {fr with defers:=yM})::cs) (.ir v):=
      ⟨rfl,⟨v',hv,fun Kr hk=>by simp [tryRecover,show Kr.kind= .deferred from hk,hm]⟩,fun Kr hk=>by simp [tryRecover,show Kr.kind= .deferred from hk]⟩
     simp only[cN] at hu
     split at hu
     · rename_i h1 v1 hcd
       obtain ⟨φ1,w1,ID,f1,_,Ql,iY⟩:=sO hE dp hcd ok Bi (c:=fun x=>if x then {fr with defers:=yM,mode:= .panicking [{v:=v',recovered:=true}]} else {fr with defers:=yM}) (cs:=cs) gG
       have qh:re (fun x=>if x then {fr with defers:=yM,mode:= .panicking [{v:=v',recovered:=true}]} else {fr with defers:=yM}) (.ir v1)={fr with defers:=yM}:=by simp [re,hm,settle]
       rw[qh] at iY
       simp only[Bool.false_eq_true,if_false,cur] at iY
       obtain ⟨φ2,w2,m2,Bu,f2,Rf,K9⟩:=kh hE dp ds hu (fr:={fr with defers:=yM}) (cs:=cs) ID (Rc.mono f1.ext) (.inr ⟨v,v',rfl,hv.mono f1.ext,hm⟩)
       exact ⟨φ2,w2,m2,Bu,f1.trans f2,Rf,.head (st1 Ql) (Steps.trans iY K9)⟩
     · rename_i h1 hcd
       obtain ⟨φ1,w1,ID,f1,_,Ql,iY⟩:=sO hE dp hcd ok Bi (c:=fun x=>if x then {fr with defers:=yM,mode:= .panicking [{v:=v',recovered:=true}]} else {fr with defers:=yM}) (cs:=cs) gG
       have qh:re (fun x=>if x then {fr with defers:=yM,mode:= .panicking [{v:=v',recovered:=true}]} else {fr with defers:=yM}) .done={fr with defers:=yM,mode:= .returning}:=by simp [re,settle]
       rw[qh] at iY
       simp only[Bool.false_eq_true,if_false,cur] at iY
       obtain ⟨φ2,w2,m2,Bu,f2,Rf,K9⟩:=kh hE dp ds hu (fr:={fr with defers:=yM,mode:= .returning}) (cs:=cs) ID (Rc.mono f1.ext) (.inl ⟨rfl,rfl⟩)
       exact ⟨φ2,w2,m2,Bu,f1.trans f2,Rf,.head (st1 Ql) (Steps.trans iY K9)⟩
     · simp at hu
theorem II (hE:kM E) (fuel d:Nat) (ih:iK E (gJ E d fuel)):(∀f args h v h',gJ E (d+1) fuel (.fn f) args h= .ret v h'→lB E f args h v h')∧(∀f args h v h',gJ E (d+1) fuel (.fn f) args h= .panic v h'→MR E f args h v h'):=by
 have key:∀(f:FuncId) (args:List AV) (h:aA) (out:jB),gJ E (d+1) fuel (.fn f) args h=out→(∀why q,out≠ .fail why q)→
  ∃fn c e s p,E.P.funcs[f]? =some fn∧fn.body=some c∧mZ E (gJ E d fuel) fuel fn c args h .no= .ok e s∧
   ((p=none∧(e= .normal∨e= .ret))∨∃v,p=some v∧e= .panic v)∧
   ((∃v h',out= .panic v h'∧cN (iG E (gJ E d fuel) fuel) s.ds p s.h=some (some v,h'))∨
    ∃vs h',out= .ret (fR vs) h'∧cN (iG E (gJ E d fuel) fuel) s.ds p s.h=some (none,h')∧jL E h' s.ts fn.results.toList=some vs):=by
  intro f args h out e eF
  simp only[gJ] at e
  split at e
  · exact absurd e.symm (eF _ _)
  rename_i fn hf
  split at e
  · exact absurd e.symm (eF _ _)
  rename_i c hb
  have fin:∀(p:Option AV) (s:St),(match cN (iG E (gJ E d fuel) fuel) s.ds p s.h with
   | none=>jB.fail "unwind" none
   | some (some v,h')=> .panic v h'
   | some (none,h')=>match jL E h' s.ts fn.results.toList with
     | some vs=> .ret (fR vs) h'
     | none=> .fail "results" none)=out→
   ((∃v h',out= .panic v h'∧cN (iG E (gJ E d fuel) fuel) s.ds p s.h=some (some v,h'))∨
    ∃vs h',out= .ret (fR vs) h'∧cN (iG E (gJ E d fuel) fuel) s.ds p s.h=some (none,h')∧jL E h' s.ts fn.results.toList=some vs):=by
   intro p s hm
   split at hm
   · exact absurd hm.symm (eF _ _)
   · rename_i v h' hu;exact .inl ⟨v,h',hm.symm,hu⟩
   · rename_i h' hu
     split at hm
     · rename_i vs hv;exact .inr ⟨vs,h',hm.symm,hu,hv⟩
     · exact absurd hm.symm (eF _ _)
  split at e
  · rename_i s gB;exact ⟨fn,c,_,s,none,hf,hb,gB,.inl ⟨rfl,.inl rfl⟩,fin none s e⟩
  · rename_i s gB;exact ⟨fn,c,_,s,none,hf,hb,gB,.inl ⟨rfl,.inr rfl⟩,fin none s e⟩
  · rename_i v s gB;exact ⟨fn,c,_,s,some v,hf,hb,gB,.inr ⟨v,rfl,rfl⟩,fin (some v) s e⟩
  · exact absurd e.symm (eF _ _)
  · exact absurd e.symm (eF _ _)
 have run:∀(f:FuncId) (fn:Func) (c:Code) (args:List AV) (h:aA) (e:iB) (s:St) (p p':Option AV) (h':aA),E.P.funcs[f]? =some fn→fn.body=some c→mZ E (gJ E d fuel) fuel fn c args h .no= .ok e s→
  ((p=none∧(e= .normal∨e= .ret))∨∃v,p=some v∧e= .panic v)→cN (iG E (gJ E d fuel) fuel) s.ds p s.h=some (p',h')→
  ∀(φ:Ph) (w:World) (vs:List Value),OK E φ h w→LR φ args vs→∀cs,∃φ' w' m' tmps todo,OK E φ' h' w'∧Fr φ h w φ' h' w'∧LR φ' s.ts tmps.toList∧
   ((p'=none∧m'= .returning)∨∃v v',p'=some v∧VR φ' v v'∧m'= .panicking [{v:=v',recovered:=false}])∧
   Steps E.P (lone (Frame.enter E.P f vs.toArray .normal) cs w) (lone {(bare f .normal).atR {tmps,defers:=[]} todo with mode:=m'} cs w'):=by
  intro f fn c args h e s p p' h' hf hb gB hp hu φ w vs ok hl cs
  obtain ⟨φ1,w1,a1,e1,x1,x2,x3,x4,x5,x6⟩:=(sM hE ih hf hb gB ok hl (kind:= .normal) (K:=fun _=>cs) ⟨rfl,fun fr hk=>by simp [tryRecover,show fr.kind= .normal from hk]⟩).is
  have IJ:cur (fun _=>cs) s.rc=cs:=by cases s.rc<;>rfl
  have Rg:cur (fun _=>cs) RC.no=cs:=rfl
  rw[IJ] at x6
  rw[Rg] at x6
  have hm:∃todo m,((p=none∧m= .returning)∨∃v v',p=some v∧VR φ1 v v'∧m= .panicking [{v:=v',recovered:=false}])∧
   Steps E.P (lone (Frame.enter E.P f vs.toArray .normal) cs w) (lone {(bare f .normal).atR a1 todo with mode:=m} cs w1):=by
   rcases hp with ⟨rfl,rfl | rfl⟩ | ⟨v,rfl,rfl⟩
   · cases x1;exact ⟨[],.returning,.inl ⟨rfl,rfl⟩,Steps.trans x6 (.one (stepR_end rfl))⟩
   · cases x1;obtain ⟨todo,hs⟩:=x6;exact ⟨_,.returning,.inl ⟨rfl,rfl⟩,Steps.trans hs (.one (stepR_ret rfl))⟩
   · cases x1 with
     | panic _ v' hv=>obtain ⟨todo,hs⟩:=x6;exact ⟨todo,_,.inr ⟨v,v',rfl,hv,rfl⟩,hs⟩
  obtain ⟨todo,m,hmp,so⟩:=hm
  obtain ⟨φ2,w2,m2,Bu,f2,Rf,hs2⟩:=kh hE ih s.ds hu (fr:={(bare f .normal).atR a1 todo with mode:=m}) (cs:=cs) x3 x2.ds (by
   rcases hmp with ⟨e,em⟩ | ⟨v,v',e,hv,em⟩
   · exact .inl ⟨e,em⟩
   · exact .inr ⟨v,v',e,hv,em⟩)
  exact ⟨φ2,w2,m2,a1.tmps,todo,Bu,x4.trans f2,x2.ts.mono f2.ext,Rf,Steps.trans so hs2⟩
 refine ⟨fun f args h v h' e=>?_,fun f args h v h' e=>?_⟩
 · obtain ⟨fn,c,e1,s,p,hf,hb,gB,hp,qc⟩:=key f args h _ e (by simp)
   rcases qc with ⟨v1,h1,he,_⟩ | ⟨vs1,h1,he,hu,DM⟩
   · simp at he
   · simp at he;obtain ⟨rfl,rfl⟩:=he
     intro φ w vs ok hl
     refine ⟨enters hE hf hb _ w,fun cs=>?_⟩
     obtain ⟨φ',w',m',tmps,todo,sr,fr,ht,hm,hs⟩:=run f fn c args h e1 s p none h' hf hb gB hp hu φ w vs ok hl cs
     obtain ⟨v',hv,f'⟩:=sL sr ht DM
     rcases hm with ⟨_,rfl⟩ | ⟨v,v'',e,_⟩
     · exact ⟨φ',w',v',_,hv,sr,fr,hs,rfl,rfl,rfl,rfl,fn,hf,f'⟩
     · simp at e
 · obtain ⟨fn,c,e1,s,p,hf,hb,gB,hp,qc⟩:=key f args h _ e (by simp)
   rcases qc with ⟨v1,h1,he,hu⟩ | ⟨vs1,h1,he,_⟩
   · simp at he;obtain ⟨rfl,rfl⟩:=he
     intro φ w vs ok hl
     refine ⟨enters hE hf hb _ w,fun cs=>?_⟩
     obtain ⟨φ',w',m',tmps,todo,sr,fr,ht,hm,hs⟩:=run f fn c args h e1 s p (some v) h' hf hb gB hp hu φ w vs ok hl cs
     rcases hm with ⟨e,_⟩ | ⟨v2,v',e,hv,rfl⟩
     · simp at e
     · simp at e;subst e
       exact ⟨φ',w',v',_,hv,sr,fr,hs,rfl,rfl,rfl,fn,hf⟩
   · simp at he
theorem vF {l:Nat} {jump:Option Code} {s:St} {v:AV} {h':aA} (he:Av l jump s= .ret v h') {φ:Ph} {w:World} (ok:OK E φ s.h w) {ll:Loc} (hl:φ l=some ll):
 ∃w',v= .bool jump.isNone∧OK E φ h' w'∧Fr φ s.h w φ h' w'∧(Instr.endRound ll.eg jump).run E.P w= .ok (.bool jump.isNone) w':=by
 unfold Av at he
 split at he
 · rename_i st pd ts ps as_ bd dn hg
   simp only[jB.ret.injEq] at he;obtain ⟨rfl,rfl⟩:=he
   obtain ⟨_,r,hr,yR⟩:=ok.live _ _ _ hg hl
   obtain ⟨ID,f1⟩:=ok.Gb (o':= .loop (if jump.isNone then .ready else .done) jump ts ps as_ bd dn) hg rfl hl (O:= .loop {r with state:=if jump.isNone then .ready else .done,pending:=jump})
    ⟨by have:=ok.live _ _ _ hg hl;exact this.1,_,rfl,⟨rfl,rfl,yR.tmps,yR.params,yR.assign,yR.body,yR.defers,yR.fn⟩⟩
   exact ⟨_,rfl,ID,f1,run_endRound jump hr⟩
 · simp at he
theorem IK {φ:Ph}:∀{ps:List Tmp} {args:List AV} {vs:List Value} (_:LR φ args vs) {ts:List AV} {tmps:Array Value} (_:LR φ ts tmps.toList),
 LR φ ((ps.zip args).foldl (fun ts x=>ts.set x.1 x.2) ts) (((ps.zip vs).foldl (fun (tmps:Array Value) (x:Tmp×Value)=>tmps.setIfInBounds x.1 x.2) tmps).toList)
 | [],_,_,_,_,_,ht=>by simpa using ht
 | p::ps,[],vs,hl,ts,tmps,ht=>by rw[hl.gE];simpa using ht
 | p::ps,x::xs,vs,hl,ts,tmps,ht=>by
   obtain ⟨y,ys,rfl,hy,uG⟩:=hl.cu
   simp only[List.zip_cons_cons,List.foldl_cons]
   exact IK uG (by simpa using ht.set hy p)
theorem vG (hE:kM E) {call:bh} (dp:iK E call) {fuel l:Nat} {args:List AV} {h:aA} {out:jB} (ho:qT E call fuel l args h=out) (eF:∀why q,out≠ .fail why q)
 {φ:Ph} {w:World} {vs:List Value} (ok:OK E φ h w) {ll:Loc} (hφ:φ l=some ll) (hl:LR φ args vs):
 ∃f tmps assign body,(Instr.yield ll.eg vs.toArray).run E.P w= .ok (.round ll.eg f tmps assign body) w∧∀c cs,
  (∀v h',out= .ret v h'→∃φ' w' v',VR φ' v v'∧OK E φ' h' w'∧Fr φ h w φ' h' w'∧Steps E.P (lone (Frame.round ll.eg f tmps assign body .normal) (c::cs) w) (lone (c.finish v') cs w'))∧
  (∀v h',out= .panic v h'→∃φ' w' v',VR φ' v v'∧OK E φ' h' w'∧Fr φ h w φ' h' w'∧Steps E.P (lone (Frame.round ll.eg f tmps assign body .normal) (c::cs) w) (lone (c.raise [{v:=v',recovered:=false}]) cs w')):=by
 unfold qT at ho
 split at ho
 · rename_i st pd ts ps as_ bd dn hg
   split at ho
   · rename_i hlen
     split at ho
     · rename_i s1 hx1
       split at ho
       · rename_i pd2 UW QB P9 UX UY hg1
         obtain ⟨aii,r,hr,yR⟩:=ok.live _ _ _ hg hφ
         have OH:vs.toArray.size=r.params.size:=by
          have h1:=congrArg List.length yR.params
          have h2:=hl.1
          simp at h1 ⊢;omega
         refine ⟨r.fn,_,r.assign,r.body,run_yield hr OH,fun c cs=>?_⟩
         have aco:LR φ ((ps.zip args).foldl (fun ts x=>ts.set x.1 x.2) ts) ((r.params.zip vs.toArray).foldl (fun tmps (t,a)=>tmps.setIfInBounds t a) r.tmps).toList:=by
          have:=IK (ps:=ps) hl yR.tmps
          rw[←Array.foldl_toList,Array.toList_zip,yR.params]
          exact this
         generalize htm:(r.params.zip vs.toArray).foldl (fun tmps (t,a)=>tmps.setIfInBounds t a) r.tmps=MW at aco
         let b:Frame:={fn:=r.fn,tmps:= #[],todo:=[],defers:=[],mode:= .run,kind:= .normal,roundOf:=some ll.eg}
         have hb:b.roundOf=some ll.eg:=rfl
         have hk:b.kind= .normal:=rfl
         have yN:Frame.round ll.eg r.fn MW r.assign r.body .normal=b.atR {tmps:=MW,defers:=[]} [.code r.assign,.beginRound,.code r.body]:=rfl
         rw[yR.assign,yR.body] at yN ⊢
         rw[yN]
         have IJ:∀rc,cur (fun _=>c::cs) rc=c::cs:=fun rc=>by cases rc<;>rfl
         obtain ⟨φ1,w1,a1,e1,x1,x2,x3,x4,x5,x6⟩:=(vE hE dp fuel as_ hx1 (a:={tmps:=MW,defers:=[]}) (b:=b) (k:=[.beginRound,.code bd]) (K:=fun _=>c::cs) ⟨aco,trivial⟩ ok ⟨ll,hφ,rfl⟩ yR.fn).1.is
         cases x1
         rw[IJ,IJ] at x6
         have hφ1:=x4.ext _ _ hφ
         obtain ⟨acp,r1,VA,IL⟩:=x3.live _ _ _ hg1 hφ1
         obtain ⟨Bu,f2⟩:=x3.Gb (o':= .loop .busy pd2 UW QB P9 UX UY) hg1 rfl hφ1 (O:= .loop {r1 with state:= .busy})
          ⟨acp,_,rfl,⟨rfl,IL.pending,IL.tmps,IL.params,IL.assign,IL.body,IL.defers,IL.fn⟩⟩
         have afq:=stepR_beginRound (P:=E.P) (b:=b) (a:=a1) (k:=[.code bd]) (cs:=c::cs) hb (run_beginRound VA IL.state)
         have uH:=Steps.trans x6 (.one afq)
         have body:∀(e:iB) (s2:St),exec E call fuel bd {s1 with h:=s1.h.put l (some (.loop .busy pd2 UW QB P9 UX UY))}= .ok e s2→
          ∃φ' w' a' e',Zc φ' e e'∧SR φ' s2.ts s2.ds a'∧OK E φ' s2.h w'∧Fr φ h w φ' s2.h w'∧φ' l=some ll∧IF E.P (lone (b.atR {tmps:=MW,defers:=[]} [.code as_,.beginRound,.code bd]) (c::cs) w) b [] (c::cs) e' a' w':=by
          intro e s2 VK
          obtain ⟨φ3,w3,a3,e3,y1,y2,y3,y4,y5,y6⟩:=(vE hE dp fuel bd VK (a:=a1) (b:=b) (k:=[]) (K:=fun _=>c::cs) x2 Bu x5 yR.fn).1.is
          rw[IJ,IJ] at y6
          exact ⟨φ3,w3,a3,e3,y1,y2,y3,(x4.trans f2).trans y4,y4.ext _ _ hφ1,.of_steps uH y6⟩
         split at ho
         · rename_i s2 VK
           obtain ⟨φ3,w3,a3,e3,y1,y2,y3,y4,Qk,y6⟩:=body _ _ VK
           cases y1
           refine ⟨fun v h' e=>?_,fun v h' e=>?_⟩
           · obtain ⟨w4,rfl,z1,z2,z3⟩:=vF (ho.trans e) y3 Qk
             exact ⟨φ3,w4,_,.bool _,z1,y4.trans z2,Steps.trans y6 (.one (stepR_round_end hb hk z3))⟩
           · rw[e] at ho;unfold Av at ho;split at ho<;>simp at ho
         · rename_i s2 VK
           obtain ⟨φ3,w3,a3,e3,y1,y2,y3,y4,Qk,y6⟩:=body _ _ VK
           cases y1
           refine ⟨fun v h' e=>?_,fun v h' e=>?_⟩
           · obtain ⟨w4,rfl,z1,z2,z3⟩:=vF (ho.trans e) y3 Qk
             obtain ⟨todo,hs⟩:=y6
             exact ⟨φ3,w4,_,.bool _,z1,y4.trans z2,Steps.trans hs (.one (stepR_round_ret hb hk z3))⟩
           · rw[e] at ho;unfold Av at ho;split at ho<;>simp at ho
         · rename_i id s2 VK
           obtain ⟨φ3,w3,a3,e3,y1,y2,y3,y4,Qk,y6⟩:=body _ _ VK
           cases y1
           refine ⟨fun v h' e=>?_,fun v h' e=>?_⟩
           · obtain ⟨w4,rfl,z1,z2,z3⟩:=vF (ho.trans e) y3 Qk
             obtain ⟨todo,ht,hs⟩:=y6
             exact ⟨φ3,w4,_,.bool _,z1,y4.trans z2,Steps.trans hs (.one (stepR_round_exit hb hk ht z3))⟩
           · rw[e] at ho;unfold Av at ho;split at ho<;>simp at ho
         · rename_i v2 s2 VK
           obtain ⟨φ3,w3,a3,e3,y1,y2,y3,y4,Qk,y6⟩:=body _ _ VK
           split at ho
           · rename_i K7
             refine ⟨fun v h' e=>by rw[e] at ho;simp at ho,fun v h' e=>?_⟩
             rw[e] at ho;simp at ho;obtain ⟨rfl,rfl⟩:=ho
             cases y1 with
             | panic _ v' hv=>
               obtain ⟨todo,hs⟩:=y6
               have hdn:a3.defers=[]:=sN (by have:=y2.ds;rw[List.isEmpty_iff.1 K7] at this;exact this)
               obtain ⟨fn,DA⟩:=Option.isSome_iff_exists.1 yR.fn
               exact ⟨φ3,w3,v',hv,y3,y4,Steps.trans hs (.one (step_leave_panicked ⟨rfl,hdn,fn,DA⟩))⟩
           · exact absurd ho.symm (eF _ _)
         · exact absurd ho.symm (eF _ _)
       · exact absurd ho.symm (eF _ _)
     · exact absurd ho.symm (eF _ _)
     · exact absurd ho.symm (eF _ _)
   · exact absurd ho.symm (eF _ _)
 · exact absurd ho.symm (eF _ _)
theorem zJ (hE:kM E) (fuel:Nat):∀d,iK E (gJ E d fuel)
 | 0=>⟨fun f args h v h' e=>by simp [gJ] at e,fun f args h v h' e=>by simp [gJ] at e⟩
 | d+1=>by
   have ih:=zJ hE fuel d
   obtain ⟨k1,k2⟩:=II hE fuel d ih
   refine ⟨fun F args h v h' e=>?_,fun F args h v h' e=>?_⟩
   · cases F with
     | fn f=>exact (k1 f args h v h' e).any
     | ua l=>
       simp only[gJ] at e
       intro φ w vs ok hf hl
       obtain ⟨ll,hφ⟩:=hf
       obtain ⟨f,tmps,assign,body,hy,f'⟩:=vG hE ih e (by simp) ok hφ hl
       exact ⟨_,_,.ua l ll hφ vs f tmps assign body hy,fun c cs=>(f' c cs).1 v h' rfl⟩
   · cases F with
     | fn f=>exact (k2 f args h v h' e).any
     | ua l=>
       simp only[gJ] at e
       intro φ w vs ok hf hl
       obtain ⟨ll,hφ⟩:=hf
       obtain ⟨f,tmps,assign,body,hy,f'⟩:=vG hE ih e (by simp) ok hφ hl
       exact ⟨_,_,.ua l ll hφ vs f tmps assign body hy,fun c cs=>(f' c cs).2 v h' rfl⟩
end Go.Ab
end
section
namespace Go.Ab.Fa
structure Acc (T:Type) where
 f:T→AV
structure Upd (T:Type) where
 f:AV→T→T
structure RF where
 T:Type
 N:Nat
 get:Nat→Acc T
 set:Nat→Upd T
 z:T
 Ri:∀i,i<N→(get i).f z=AV.undef
 w8:∀i,i<N→∀v r,(get i).f ((set i).f v r)=v
 uk:∀i j,i<N→j<N→i≠j→∀v r,(get j).f ((set i).f v r)=(get j).f r
def VL (i:Nat):Acc (P8 (P8 AV)):=s8 (i/8) fun p=>s8 (i%8) fun q=>⟨fun r=>q (p r)⟩
noncomputable def Zq (i:Nat):Upd (P8 (P8 AV)):=e8 (i/8) fun p=>e8 (i%8) fun q=>⟨fun v r=>p (q fun _=>v) r⟩
noncomputable def rf2:RF where
 T:=P8 (P8 AV)
 N:=64
 get:=VL
 set:=Zq
 z:=P8.all (P8.all AV.undef)
 Ri i h:=by simp only[VL,uZ,AT]
 w8 i h v r:=by simp only[VL,Zq,uZ,zz,di]
 uk i j hi hj h v r:=by
  simp only[VL,Zq,uZ,zz]
  by_cases h1:i/8=j/8
  · rw[h1,di,dV (by omega) (by omega) (by omega)]
  · rw[dV (by omega) (by omega) h1]
def VM (i:Nat):Acc (P8 (P8 (P8 AV))):=s8 (i/64) fun o=>s8 (i/8%8) fun p=>s8 (i%8) fun q=>⟨fun r=>q (p (o r))⟩
noncomputable def Zr (i:Nat):Upd (P8 (P8 (P8 AV))):=e8 (i/64) fun o=>e8 (i/8%8) fun p=>e8 (i%8) fun q=>⟨fun v r=>o (p (q fun _=>v)) r⟩
noncomputable def rf3:RF where
 T:=P8 (P8 (P8 AV))
 N:=512
 get:=VM
 set:=Zr
 z:=P8.all (P8.all (P8.all AV.undef))
 Ri i h:=by simp only[VM,uZ,AT]
 w8 i h v r:=by simp only[VM,Zr,uZ,zz,di]
 uk i j hi hj h v r:=by
  simp only[VM,Zr,uZ,zz]
  by_cases h1:i/64=j/64
  · rw[h1,di]
    by_cases h2:i/8%8=j/8%8
    · rw[h2,di,dV (by omega) (by omega) (by omega)]
    · rw[dV (by omega) (by omega) h2]
  · rw[dV (by omega) (by omega) h1]
section
variable (F:RF) (n:Nat)
def fi (r:F.T):List AV:=(List.range n).map fun i=>(F.get i).f r
theorem jh (r:F.T):(fi F n r).length=n:=by simp [fi]
theorem um (r:F.T) {i:Nat} (h:i<n):(fi F n r)[i]? =some ((F.get i).f r):=by simp [fi,h]
theorem IM (r:F.T) (i:Nat):(fi F n r).getD i AV.undef=if i<n then (F.get i).f r else AV.undef:=by
 rw[List.getD_eq_getElem?_getD]
 split
 · rename_i h;rw[um F n r h];rfl
 · rw[List.getElem?_eq_none (by rw[jh];omega)];rfl
theorem VN (hn:n≤F.N) (r:F.T) {i:Nat} (h:i<n) (v:AV):(fi F n r).set i v=fi F n ((F.set i).f v r):=by
 apply List.ext_getElem?
 intro j
 rw[List.getElem?_set]
 by_cases hj:j<n
 · rw[um F n _ hj,um F n _ hj,jh]
   by_cases e:i=j
   · subst e;simp [F.w8 i (by omega),h]
   · rw[if_neg e,F.uk i j (by omega) (by omega) e]
 · rw[List.getElem?_eq_none (l:=fi F n r) (by rw[jh];omega),List.getElem?_eq_none (l:=fi F n _) (by rw[jh];omega),jh]
   rw[if_neg (by omega)]
noncomputable def Qm:List AV→F.T→Nat→F.T:=fun l=>List.rec (motive:=fun _=>F.T→Nat→F.T) (fun r _=>r) (fun v _ ih r i=>ih ((F.set i).f v r) (Nat.add i 1)) l
theorem VO (r:F.T) (i:Nat):Qm F [] r i=r:=rfl
theorem Rj (v:AV) (l:List AV) (r:F.T) (i:Nat):Qm F (v::l) r i=Qm F l ((F.set i).f v r) (i+1):=rfl
theorem MX (hn:n≤F.N):∀(l:List AV) (r:F.T) (i:Nat),i+l.length≤n→∀j,j<n→(F.get j).f (Qm F l r i)=if i≤j∧j<i+l.length then l.getD (j - i) AV.undef else (F.get j).f r
 | [],r,i,_,j,hj=>by rw[VO,if_neg (by rw[List.length_nil];omega)]
 | v::l,r,i,h,j,hj=>by
   simp only[List.length_cons] at h
   rw[Rj,MX hn l _ (i+1) (by omega) j hj]
   simp only[List.length_cons]
   by_cases h1:i+1≤j∧j<i+1+l.length
   · rw[if_pos h1,if_pos (by omega)]
     obtain ⟨m,hm⟩:∃m,j - i=m+1:=⟨j - i - 1,by omega⟩
     rw[hm,show j -(i+1)=m by omega,List.getD_cons_succ]
   · rw[if_neg h1]
     by_cases h2:i=j
     · subst h2;rw[F.w8 i (by omega),if_pos (by omega)];simp
     · rw[F.uk i j (by omega) (by omega) h2,if_neg (by omega)]
theorem MY (hn:n≤F.N) (l:List AV) (h:l.length≤n):fi F n (Qm F l F.z 0)=l++List.replicate (n - l.length) AV.undef:=by
 apply List.ext_getElem?
 intro j
 by_cases hj:j<n
 · rw[um F n _ hj,MX F n hn l F.z 0 (by omega) j hj]
   by_cases h1:j<l.length
   · rw[if_pos (by omega),List.getElem?_append_left h1,Nat.sub_zero,List.getD_eq_getElem?_getD,List.getElem?_eq_getElem h1];rfl
   · rw[if_neg (by omega),List.getElem?_append_right (by omega),F.Ri j (by omega),List.getElem?_replicate,if_pos (by omega)]
 · rw[List.getElem?_eq_none (by rw[jh];omega),List.getElem?_eq_none (by simp;omega)]
end
end Go.Ab.Fa
end
section
namespace Go.Ab.Fa
section
variable {R:Type}
noncomputable def jP (f:Bool→R) (d:R) (v:AV):R:=
 AV.rec (motive_1:=fun _=>R) (motive_2:=fun _=>Unit) (fun b=>f b) (fun _ _=>d) (fun _=>d) d (fun _ _=>d) d (fun _ _ _ _ _=>d) d (fun _=>d) (fun _ _ _ _ _=>d) (fun _=>d) d (fun _ _ _=>d) d (fun _ _=>d) (fun _ _=>d) d d () (fun _ _ _ _=>()) v
noncomputable def oM (f:IntKind→Int→R) (d:R) (v:AV):R:=
 AV.rec (motive_1:=fun _=>R) (motive_2:=fun _=>Unit) (fun _=>d) (fun k n=>f k n) (fun _=>d) d (fun _ _=>d) d (fun _ _ _ _ _=>d) d (fun _=>d) (fun _ _ _ _ _=>d) (fun _=>d) d (fun _ _ _=>d) d (fun _ _=>d) (fun _ _=>d) d d () (fun _ _ _ _=>()) v
noncomputable def rf (f:List UInt8→R) (d:R) (v:AV):R:=
 AV.rec (motive_1:=fun _=>R) (motive_2:=fun _=>Unit) (fun _=>d) (fun _ _=>d) (fun s=>f s) d (fun _ _=>d) d (fun _ _ _ _ _=>d) d (fun _=>d) (fun _ _ _ _ _=>d) (fun _=>d) d (fun _ _ _=>d) d (fun _ _=>d) (fun _ _=>d) d d () (fun _ _ _ _=>()) v
noncomputable def yS (f:Nat→Nat→R) (d:R) (v:AV):R:=
 AV.rec (motive_1:=fun _=>R) (motive_2:=fun _=>Unit) (fun _=>d) (fun _ _=>d) (fun _=>d) d (fun i o=>f i o) d (fun _ _ _ _ _=>d) d (fun _=>d) (fun _ _ _ _ _=>d) (fun _=>d) d (fun _ _ _=>d) d (fun _ _=>d) (fun _ _=>d) d d () (fun _ _ _ _=>()) v
noncomputable def jQ (e:R) (f:Nat→Nat→Nat→Nat→Bool→R) (d:R) (v:AV):R:=
 AV.rec (motive_1:=fun _=>R) (motive_2:=fun _=>Unit) (fun _=>d) (fun _ _=>d) (fun _=>d) d (fun _ _=>d) e (fun i o l c b=>f i o l c b) d (fun _=>d) (fun _ _ _ _ _=>d) (fun _=>d) d (fun _ _ _=>d) d (fun _ _=>d) (fun _ _=>d) d d () (fun _ _ _ _=>()) v
noncomputable def vZ (z d:R) (v:AV):R:=
 AV.rec (motive_1:=fun _=>R) (motive_2:=fun _=>Unit) (fun _=>d) (fun _ _=>d) (fun _=>d) d (fun _ _=>d) d (fun _ _ _ _ _=>d) d (fun _=>d) (fun _ _ _ _ _=>d) (fun _=>d) d (fun _ _ _=>d) d (fun _ _=>d) (fun _ _=>d) z d () (fun _ _ _ _=>()) v
noncomputable def MZ (f:FuncId→List AV→List AV→R) (y:Nat→R) (d:R) (v:AV):R:=
 AV.rec (motive_1:=fun _=>R) (motive_2:=fun _=>Unit) (fun _=>d) (fun _ _=>d) (fun _=>d) d (fun _ _=>d) d (fun _ _ _ _ _=>d) d (fun _=>d) (fun g a b _ _=>f g a b) (fun l=>y l) d (fun _ _ _=>d) d (fun _ _=>d) (fun _ _=>d) d d () (fun _ _ _ _=>()) v
noncomputable def yT (f:List AV→R) (t:List AV→R) (d:R) (v:AV):R:=
 AV.rec (motive_1:=fun _=>R) (motive_2:=fun _=>Unit) (fun _=>d) (fun _ _=>d) (fun _=>d) d (fun _ _=>d) d (fun _ _ _ _ _=>d) d (fun _=>d) (fun _ _ _ _ _=>d) (fun _=>d) d (fun _ _ _=>d) d (fun cs _=>f cs) (fun cs _=>t cs) d d () (fun _ _ _ _=>()) v
noncomputable def rh (f:TypeId→AV→R) (d:R) (v:AV):R:=
 AV.rec (motive_1:=fun _=>R) (motive_2:=fun _=>Unit) (fun _=>d) (fun _ _=>d) (fun _=>d) d (fun _ _=>d) d (fun _ _ _ _ _=>d) d (fun _=>d) (fun _ _ _ _ _=>d) (fun _=>d) d (fun t v _=>f t v) d (fun _ _=>d) (fun _ _=>d) d d () (fun _ _ _ _=>()) v
noncomputable def Ge (v:AV):Bool:=
 AV.rec (motive_1:=fun _=>Bool) (motive_2:=fun _=>Unit) (fun _=>false) (fun _ _=>false) (fun _=>false) false (fun _ _=>true) false (fun _ _ _ _ _=>true) false (fun _=>true) (fun _ _ _ _ _=>true) (fun _=>false) false (fun _ _ _=>false) false (fun _ _=>false) (fun _ _=>false) false false () (fun _ _ _ _=>()) v
noncomputable def ob {α:Type} (d:R) (f:α→R) (o:Option α):R:=Option.rec (motive:=fun _=>R) d f o
noncomputable def bc (b:Bool) (x y:R):R:=Bool.rec (motive:=fun _=>R) y x b
noncomputable def yU (f:List AV→TypeId→Bool→R) (d:R) (o:aX):R:=
 aX.rec (motive:=fun _=>R) (fun cs e ro=>f cs e ro) (fun _ _=>d) (fun _ _=>d) (fun _ _ _ _=>d) (fun _ _ _ _ _ _ _=>d) d o
noncomputable def lq (f:Nat→R) (d:R) (n:Int):R:=Int.rec (motive:=fun _=>R) f (fun _=>d) n
noncomputable def Zs (a b c d e f g h:R) (k:IntKind):R:=IntKind.rec (motive:=fun _=>R) a b c d e f g h k
end
noncomputable def kc (k:IntKind):Nat:=Zs 0 1 2 3 4 5 6 7 k
noncomputable def Rl (k j:IntKind):Bool:=Nat.beq (kc k) (kc j)
noncomputable def uI (k:IntKind):Nat:=Zs 128 32768 2147483648 9223372036854775808 256 65536 4294967296 18446744073709551616 k
noncomputable def Rm (k:IntKind):Nat:=Zs 8 16 32 64 8 16 32 64 k
noncomputable def XV (k:IntKind):Bool:=Zs true true true true false false false false k
noncomputable def vd (k:IntKind) (n:Int):Int:=
 Int.rec (motive:=fun _=>Int) (fun m=>bc (Nat.ble (uI k) m) (bc (XV k) (k.wrap (Int.ofNat m)) (Int.ofNat (Nat.mod m (uI k)))) (Int.ofNat m))
  (fun m=>bc (XV k) (bc (Nat.ble (uI k) m) (k.wrap (Int.negSucc m)) (Int.negSucc m)) (k.wrap (Int.negSucc m))) n
noncomputable def OW (a b:Int):Int:=lq (fun x=>lq (fun y=>Int.ofNat (Nat.add x y)) (Int.add a b) b) (Int.add a b) a
noncomputable def OX (a b:Int):Int:=lq (fun x=>lq (fun y=>bc (Nat.ble y x) (Int.ofNat (Nat.sub x y)) (Int.negSucc (Nat.sub (Nat.sub y x) 1))) (Int.sub a b) b) (Int.sub a b) a
noncomputable def Ro (a b:Int):Int:=lq (fun x=>lq (fun y=>Int.ofNat (Nat.mul x y)) (Int.mul a b) b) (Int.mul a b) a
noncomputable def XW (a b:Int):Bool:=
 Int.rec (motive:=fun _=>Bool) (fun x=>Int.rec (motive:=fun _=>Bool) (fun y=>Nat.beq x y) (fun _=>false) b) (fun x=>Int.rec (motive:=fun _=>Bool) (fun _=>false) (fun y=>Nat.beq x y) b) a
noncomputable def VP (a b:Int):Bool:=
 Int.rec (motive:=fun _=>Bool) (fun x=>Int.rec (motive:=fun _=>Bool) (fun y=>Nat.ble (Nat.add x 1) y) (fun _=>false) b) (fun x=>Int.rec (motive:=fun _=>Bool) (fun _=>true) (fun y=>Nat.ble (Nat.add y 1) x) b) a
noncomputable def vH (b:Bool):Bool:=bc b false true
noncomputable def VQ (op:BinOp):IntKind→Int→Int→Option AV:=match op with
 | .add=>fun k a b=>some (.int k (vd k (OW a b)))
 | .sub=>fun k a b=>some (.int k (vd k (OX a b)))
 | .mul=>fun k a b=>some (.int k (vd k (Ro a b)))
 | .eql=>fun _ a b=>some (.bool (XW a b))
 | .neq=>fun _ a b=>some (.bool (vH (XW a b)))
 | .lss=>fun _ a b=>some (.bool (VP a b))
 | .leq=>fun _ a b=>some (.bool (vH (VP b a)))
 | .gtr=>fun _ a b=>some (.bool (VP b a))
 | .geq=>fun _ a b=>some (.bool (vH (VP a b)))
 | .quo=>fun k a b=>lq (fun x=>lq (fun y=>bc (Nat.beq y 0) none (some (.int k (vd k (Int.ofNat (Nat.div x y)))))) (c_ .quo k a b) b) (c_ .quo k a b) a
 | .rem=>fun k a b=>lq (fun x=>lq (fun y=>bc (Nat.beq y 0) none (some (.int k (Int.ofNat (Nat.mod x y))))) (c_ .rem k a b) b) (c_ .rem k a b) a
 | .and=>fun k a b=>lq (fun x=>lq (fun y=>bc (Nat.ble (uI k) x) (c_ .and k a b) (bc (Nat.ble (uI k) y) (c_ .and k a b) (some (.int k (Int.ofNat (Nat.land x y)))))) (c_ .and k a b) b) (c_ .and k a b) a
 | .or=>fun k a b=>lq (fun x=>lq (fun y=>bc (Nat.ble (uI k) x) (c_ .or k a b) (bc (Nat.ble (uI k) y) (c_ .or k a b) (some (.int k (Int.ofNat (Nat.lor x y)))))) (c_ .or k a b) b) (c_ .or k a b) a
 | op=>fun k a b=>c_ op k a b
noncomputable def Rp (k:IntKind) (y:Nat):Nat:=bc (Nat.ble (Rm k) y) (Rm k) y
noncomputable def acq (k:IntKind) (a b:Int):Option AV:=lq (fun y=>some (.int k (vd k (Ro a (Int.ofNat (Nat.pow 2 (Rp k y))))))) none b
noncomputable def acr (k:IntKind) (a b:Int):Option AV:=lq (fun y=>some (.int k (lq (fun x=>Int.ofNat (Nat.div x (Nat.pow 2 (Rp k y)))) (a.fdiv (2^(min y k.bits))) a))) none b
section
variable {α:Type}
noncomputable def jt (l:List α):Nat:=List.rec (motive:=fun _=>Nat) 0 (fun _ _ ih=>Nat.add ih 1) l
noncomputable def ju (l:List α):Nat→Option α:=List.rec (motive:=fun _=>Nat→Option α) (fun _=>none) (fun v _ ih o=>bc (Nat.beq o 0) (some v) (ih (Nat.sub o 1))) l
noncomputable def sP (l:List α):Nat→List α:=List.rec (motive:=fun _=>Nat→List α) (fun _=> []) (fun v tl ih o=>bc (Nat.beq o 0) (v::tl) (ih (Nat.sub o 1))) l
noncomputable def sQ (l:List α):Nat→List α:=List.rec (motive:=fun _=>Nat→List α) (fun _=> []) (fun v _ ih o=>bc (Nat.beq o 0) [] (v::ih (Nat.sub o 1))) l
noncomputable def lK (l m:List α):List α:=List.rec (motive:=fun _=>List α) m (fun v _ ih=>v::ih) l
noncomputable def yV (f:α→Bool) (l:List α):Bool:=List.rec (motive:=fun _=>Bool) true (fun v _ ih=>bc (f v) ih false) l
noncomputable def IN (vs:List α):List α→List α:=
 List.rec (motive:=fun _=>List α→List α) (fun cs=>cs) (fun v _ ih cs=>List.rec (motive:=fun _=>List α) [] (fun _ tl _=>v::ih tl) cs) vs
noncomputable def IP (vs cs:List α):Nat→List α:=
 List.rec (motive:=fun _=>Nat→List α) (fun _=> []) (fun c tl ih o=>bc (Nat.beq o 0) (IN vs (c::tl)) (c::ih (Nat.sub o 1))) cs
noncomputable def leq (f:α→α→Bool) (l:List α):List α→Bool:=
 List.rec (motive:=fun _=>List α→Bool) (fun m=>List.rec (motive:=fun _=>Bool) true (fun _ _ _=>false) m)
  (fun x _ ih m=>List.rec (motive:=fun _=>Bool) false (fun y tl _=>bc (f x y) (ih tl) false) m) l
end
noncomputable def By (a b:UInt8):Bool:=Nat.beq a.toBitVec.toFin.val b.toBitVec.toFin.val
noncomputable def VS (v:AV):Bool:=yT (fun _=>false) (fun _=>false) true v
noncomputable def lQ (v:AV):List AV:=yT (fun cs=>cs) (fun _=> [v]) [v] v
end Go.Ab.Fa
end
section
namespace Go.Ab.Fa
section
variable {α β:Type}
noncomputable def AB (l:List Nat) (x:Nat):Bool:=List.rec (motive:=fun _=>Bool) false (fun y _ ih=>bc (Nat.beq x y) true ih) l
noncomputable def Zt (f:α→Bool) (l:List α):Bool:=List.rec (motive:=fun _=>Bool) false (fun v _ ih=>bc (f v) true ih) l
noncomputable def allI (f:α→Nat→Bool) (l:List α) (i:Nat):Bool:=List.rec (motive:=fun _=>Nat→Bool) (fun _=>true) (fun v _ ih i=>bc (f v i) (canon (Nat.add i 1) ih) false) l i
noncomputable def IQ (f:α→Nat→Bool) (l:List α) (i:Nat):List Nat:=List.rec (motive:=fun _=>Nat→List Nat) (fun _=> []) (fun v _ ih i=>bc (f v i) (i::canon (Nat.add i 1) ih) (canon (Nat.add i 1) ih)) l i
noncomputable def Gg (f:α→Bool) (l:List α):Nat:=List.rec (motive:=fun _=>Nat) 0 (fun v _ ih=>bc (f v) (Nat.add ih 1) ih) l
noncomputable def K_ (f:α→Bool) (l:List α):Nat:=List.rec (motive:=fun _=>Nat) 0 (fun v _ ih=>bc (f v) (Nat.add ih 1) 0) l
noncomputable def Bz (l:List α) (i:Nat) (d:α):α:=ob d (fun x=>x) (ju l i)
noncomputable def pQ (l:List α):(List α→β)→β:=List.rec (motive:=fun _=>(List α→β)→β) (fun k=>k []) (fun x _ ih k=>ih fun tl=>k (x::tl)) l
theorem yW (l:List α) (k:List α→β):pQ l k=k l:=by
 induction l generalizing k with
 | nil=>rfl
 | cons y tl ih=>show pQ tl (fun tl=>k (y::tl))=_;rw[ih]
noncomputable def La (l:List α) (k:List α→β):β:=List.rec (motive:=fun _=>β) (k []) (fun x tl _=>k (x::tl)) l
theorem OY (l:List α) (k:List α→β):La l k=k l:=by cases l<;>rfl
noncomputable def Gh (f:List β→α→List β) (l:List α) (b:List β):List β:=List.rec (motive:=fun _=>List β→List β) (fun b=>b) (fun v _ ih b=>La (f b v) ih) l b
theorem Eu (f:List β→α→List β) (l:List α) (b:List β):Gh f l b=l.foldl f b:=by
 induction l generalizing b with
 | nil=>rfl
 | cons y tl ih=>show La (f b y) (Gh f tl)=_;rw[OY,ih];rfl
theorem sR (b:Bool) (x y:α):bc b x y=bif b then x else y:=by cases b<;>rfl
theorem AD (x y:Nat):(x==y)=Nat.beq x y:=by
 cases h:Nat.beq x y
 · rw[beq_eq_false_iff_ne];intro e;subst e;rw[Nat.beq_refl] at h;exact absurd h (by simp)
 · rw[Nat.eq_of_beq_eq_true h];simp
theorem uo (l:List Nat) (x:Nat):AB l x=l.contains x:=by
 induction l with
 | nil=>rfl
 | cons y tl ih=>
   show bc (Nat.beq x y) true (AB tl x)=_
   rw[ih,sR,List.contains_cons,AD]
   cases Nat.beq x y<;>rfl
theorem VT (f:α→Bool) (l:List α):Zt f l=l.any f:=by
 induction l with
 | nil=>rfl
 | cons y tl ih=>show bc (f y) true (Zt f tl)=_;rw[ih,sR,List.any_cons];cases f y<;>rfl
theorem ri (f:α→Bool) (l:List α):yV f l=l.all f:=by
 induction l with
 | nil=>rfl
 | cons y tl ih=>show bc (f y) (yV f tl) false=_;rw[ih,sR,List.all_cons];cases f y<;>rfl
theorem Gi (f:α→Nat→Bool) (l:List α) (i:Nat):allI f l i=(l.zipIdx i).all fun p=>f p.1 p.2:=by
 induction l generalizing i with
 | nil=>rfl
 | cons y tl ih=>show bc (f y i) (canon (i+1) (allI f tl)) false=_;rw[lM,ih,sR,List.zipIdx_cons,List.all_cons];cases f y i<;>rfl
theorem IS (f:α→Nat→Bool) (l:List α) (i:Nat):IQ f l i=((l.zipIdx i).filter fun p=>f p.1 p.2).map (·.2):=by
 induction l generalizing i with
 | nil=>rfl
 | cons y tl ih=>
   show bc (f y i) (i::canon (i+1) (IQ f tl)) (canon (i+1) (IQ f tl))=_
   rw[lM,ih,sR,List.zipIdx_cons,List.filter_cons];cases f y i<;>simp
theorem OZ (f:α→Bool) (l:List α):Gg f l=(l.filter f).length:=by
 induction l with
 | nil=>rfl
 | cons y tl ih=>show bc (f y) (Gg f tl+1) (Gg f tl)=_;rw[ih,sR,List.filter_cons];cases f y<;>simp
theorem O0 (f:α→Bool) (l:List α):K_ f l=(l.takeWhile f).length:=by
 induction l with
 | nil=>rfl
 | cons y tl ih=>show bc (f y) (K_ f tl+1) 0=_;rw[ih,sR,List.takeWhile_cons];cases f y<;>simp
theorem gY (l:List α) (i:Nat):ju l i=l[i]? :=by
 induction l generalizing i with
 | nil=>rfl
 | cons y tl ih=>
   show bc (Nat.beq i 0) (some y) (ju tl (i - 1))=_
   rw[ih,sR]
   cases i with
   | zero=>rfl
   | succ i=>rw[show Nat.beq (i+1) 0=false from rfl];simp
theorem w_ (l:List α) (i:Nat) (d:α):Bz l i d=l.getD i d:=by
 unfold Bz;rw[gY,List.getD_eq_getElem?_getD];cases l[i]? <;>rfl
theorem fS (l:List α):jt l=l.length:=by
 induction l with
 | nil=>rfl
 | cons y tl ih=>show jt tl+1=_;rw[ih];rfl
theorem n_ (l m:List α):lK l m=l++m:=by
 induction l with
 | nil=>rfl
 | cons y tl ih=>show y::lK tl m=_;rw[ih];rfl
end
noncomputable def zK (p:Program) (t:TypeId):Option TypeInfo:=ob (p.info? t) (fun i=>some i) (ju p.types.toList t)
noncomputable def XX (i:TypeInfo) (p:Program):Option TypeDesc:=TypeDesc.rec (motive:=fun _=>Option TypeDesc) (some i.desc) (some i.desc) (fun _=>some i.desc) (fun _=>some i.desc) (fun _=>some i.desc) (some i.desc) (some i.desc)
 (fun _=>some i.desc) (fun _=>some i.desc) (fun _ _=>some i.desc) (fun _ _=>some i.desc) (fun _ _=>some i.desc) (fun _=>some i.desc) (fun _ _ _=>some i.desc) (fun _=>some i.desc) (fun _=>some i.desc)
 (fun _ u=>ob none (fun j=>some j.desc) (zK p u)) i.desc
noncomputable def kl (p:Program) (t:TypeId):Option TypeDesc:=ob none (fun i=>XX i p) (zK p t)
theorem sS (p:Program) (t:TypeId):zK p t=p.info? t:=by
 unfold zK;rw[gY,Array.getElem?_toList]
 cases h:p.types[t]? with
 | none=>rfl
 | some i=>
   show some i=p.info? t
   unfold Tables.info?
   obtain ⟨lJ,_⟩:=Array.getElem?_eq_some_iff.mp h
   rw[if_pos lJ,h]
theorem ji (p:Program) (t:TypeId):kl p t=p.underlying t:=by
 unfold kl Program.underlying
 rw[sS]
 cases p.info? t with
 | none=>rfl
 | some i=>
   show XX i p=_
   obtain ⟨d,_⟩:=i
   cases d with
   | named a u=>show ob none (fun j=>some j.desc) (zK p u)=Option.map (fun x=>x.desc) (p.info? u);rw[sS];cases p.info? u<;>rfl
   | _=>rfl
noncomputable def Zu (p:Program) (f:FuncId):Option Func:=ju p.funcs.toList f
theorem VU (p:Program) (f:FuncId):Zu p f=p.funcs[f]? :=by
 unfold Zu;rw[gY];exact Array.getElem?_toList
variable (E:Env)
noncomputable def qj (op:Op):Bool:=match op with
 | .store .. | .mapUpdate .. | .insert .. | .mapEntry .. | .entryStore .. | .next .. | .panic _ | .defer _=>true
 | .convert _ dst _=>match kl E.P dst with
   | some (.slice _)=>true
   | _=>false
 | .call c=>match c.callee with
   | .builtin .len | .builtin .cap | .builtin .max | .builtin .min=>false
   | .builtin _=>true
   | .value (.func f)=>match E.mT f with
     | none=>true
     | some _=>false
   | _=>true
 | _=>false
theorem sU (op:Op):qj E op=fI E op:=by
 unfold qj fI
 cases op<;>try rfl
 · simp only[ji]
   rename_i dst _
   generalize E.P.underlying dst=u
   cases u with
   | none=>rfl
   | some d=>cases d<;>rfl
 · rename_i c
   rcases c with ⟨cz,a,t⟩
   cases cz with
   | value x=>
     cases x with
     | func f=>simp only;cases E.mT f<;>rfl
     | _=>rfl
   | builtin b=>cases b<;>rfl
   | _=>rfl
noncomputable def XY (g:Ground):Bool:=Ground.rec (motive:=fun _=>Bool) true true true true (fun _=>false) (fun _=>false) g
noncomputable def vI (o:Oper):List Nat:=List.rec (motive:=fun _=>List Nat) [] (fun e _ ih=>bc (XY e.ground) (e.on::ih) ih) o.after.toList
theorem Ew (o:Oper):vI o=kU o:=by
 unfold vI kU
 induction o.after.toList with
 | nil=>rfl
 | cons e tl ih=>
   show bc (XY e.ground) (e.on::_) _=_
   rw[ih,List.filter_cons]
   obtain ⟨on,g⟩:=e
   cases g<;>rfl
noncomputable def VW (l:List Nat) (x:Nat):List Nat:=bc (AB l x) l (x::l)
noncomputable def M1 (acc:List (List Nat)) (es:List Nat):List Nat:=Gh (fun l e=>Gh VW (Bz acc e []) (VW l e)) es []
noncomputable def Rq (l:List Oper):List (List Nat)→List (List Nat):=List.rec (motive:=fun _=>List (List Nat)→List (List Nat)) (fun acc=>acc) (fun o _ ih acc=>pQ (M1 acc (vI o)) fun a=>pQ (lK acc [a]) ih) l
theorem M3 (l:List Nat) (x:Nat):VW l x=if l.contains x then l else x::l:=by
 unfold VW;rw[uo,sR];cases l.contains x<;>rfl
theorem Rr (acc:List (List Nat)) (o:Oper):M1 acc (vI o)=(kU o).foldl (fun l e=>(acc.getD e []).foldl (fun l x=>if l.contains x then l else x::l) (if l.contains e then l else e::l)) []:=by
 unfold M1
 rw[Eu,Ew]
 congr 1
 funext l e
 rw[Eu,w_,M3]
 congr 1
 funext l x
 exact M3 l x
theorem IT:∀(l:List Oper) (acc:List (List Nat)),Rq l acc=H8 l acc
 | [],_=>rfl
 | o::rest,acc=>by
   show pQ (M1 acc (vI o)) (fun a=>pQ (lK acc [a]) (Rq rest))=_
   rw[yW,yW,IT rest,n_,Rr];rfl
noncomputable def oN (an:List (List Nat)) (i j:Nat):Bool:=AB (Bz an i []) j
theorem qk (an:List (List Nat)) (i j:Nat):oN an i j=dI an i j:=by
 unfold oN dI H9;rw[uo,w_]
noncomputable def BA (ops:List Oper) (an:List (List Nat)):Bool:=
 allI (fun o i=>bc (yV (fun e=>bc (Nat.ble (Nat.add e 1) i) (oN an i e) false) (vI o)) (yV (fun j=>bc (Nat.ble (Nat.add j 1) i) (Zt (fun e=>bc (Nat.beq e j) true (oN an e j)) (vI o)) false) (Bz an i [])) false) ops 0
theorem uq (a b:Nat):decide (a<b)=Nat.ble (a+1) b:=by
 by_cases h:a<b
 · rw[decide_eq_true h,Nat.ble_eq_true_of_le h]
 · rw[decide_eq_false h];symm;rw[Bool.eq_false_iff];intro e;exact h (Nat.le_of_ble_eq_true e)
theorem oO (a b:Bool):bc a b false=(a&&b):=by cases a<;>rfl
theorem XZ (a b:Bool):bc a true b=(a||b):=by cases a<;>rfl
theorem IU (ops:List Oper) (an:List (List Nat)):BA ops an=AU ops an:=by
 unfold BA AU
 rw[Gi]
 congr 1
 funext ⟨o,i⟩
 simp only[oO,XZ,ri,VT,w_,Ew,qk,uq,AD]
 rfl
noncomputable def Zv (l:List Operand):List Nat:=List.rec (motive:=fun _=>List Nat) [] (fun x _ ih=>Operand.rec (motive:=fun _=>List Nat) (fun t=>t::ih) (fun _=>ih) (fun _=>ih) (fun _=>ih) x) l
theorem VX (l:List Operand):Zv l=l.filterMap fun | .tmp t=>some t | _=>none:=by
 induction l with
 | nil=>rfl
 | cons x tl ih=>
   cases x<;>simp only[List.filterMap_cons,←ih]<;>rfl
noncomputable def opL (op:Op):List Operand:=match op with
 | .move x | .assign x | .box _ x | .load _ x | .nilCheck x | .unOp _ _ x | .convert _ _ x | .fieldAddr _ x _ | .field _ x _ | .extract x _=> [x]
 | .pick c a b=> [c,a,b]
 | .store _ a v | .binOp _ _ a v _ | .indexAddr _ a v | .index _ a v=> [a,v]
 | .alloc _=> []
 | .call c=>lK (match c.callee with | .value f=> [f] | .invoke r _=> [r] | .builtin _=> []) c.args.toList
 | op=>op.operands.toList
theorem Zw (op:Op):opL op=op.operands.toList:=by
 cases op<;>try rfl
 rename_i c
 obtain ⟨cz,a,t⟩:=c
 cases cz<;>simp [opL,Op.operands,Call.operands,n_]
noncomputable def BD (ops:List Oper) (an:List (List Nat)):Bool:=
 allI (fun o i=>bc (ob true (fun g=>bc (oN an i g.1) (ob false (fun p=>ob false (fun _=>true) p.dst) (ju ops g.1)) false) o.guard)
  (allI (fun p j=>bc (Nat.beq i j) true (ob true (fun d=>bc (ob true (fun a=>vH (Nat.beq a d)) o.dst) (bc (AB (Zv (opL o.op)) d) (bc (oN an i j) true (oN an j i)) true) false) p.dst)) ops 0) false) ops 0
theorem IV (ops:List Oper) (an:List (List Nat)):BD ops an=AW ops an:=by
 unfold BD AW
 rw[Gi]
 congr 1
 funext ⟨o,i⟩
 simp only[oO,XZ,qk]
 congr 1
 · obtain ⟨dst,op,ty,pos,after,guard⟩:=o
   cases guard with
   | none=>rfl
   | some g=>
     show (dI an i g.1&&ob false (fun p=>ob false (fun _=>true) p.dst) (ju ops g.1))=_
     rw[gY]
     congr 1
     cases ops[g.1]? with
     | none=>rfl
     | some p=>
       show ob false (fun _=>true) p.dst=(p.dst).isSome
       cases p.dst<;>rfl
 · rw[Gi]
   congr 1
   funext ⟨p,j⟩
   show (Nat.beq i j||_)=(i==j||_)
   rw[AD]
   congr 1
   obtain ⟨dst,op,ty,pos,after,guard⟩:=p
   cases dst with
   | none=>rfl
   | some d=>
     show (ob true (fun a=>vH (Nat.beq a d)) o.dst&&bc (AB (Zv (opL o.op)) d) (dI an i j||dI an j i) true)=(o.dst !=some d&&(!(tmpsOf o).contains d||dI an i j||dI an j i))
     congr 1
     · cases o.dst with
       | none=>rfl
       | some a=>
         show vH (Nat.beq a d)= !(some a==some d)
         rw[Option.some_beq_some,AD]
         cases Nat.beq a d<;>rfl
     · rw[uo,VX,Zw,Bool.or_assoc]
       show bc ((tmpsOf o).contains d) _ _=_
       cases (tmpsOf o).contains d<;>rfl
noncomputable def Lb (an:List (List Nat)) (l:List Nat):Bool:=List.rec (motive:=fun _=>Bool) true (fun e rest ih=>List.rec (motive:=fun _=>Bool) true (fun f _ _=>bc (oN an f e) ih false) rest) l
theorem Ex (an:List (List Nat)):∀l,Lb an l=ub an l
 | []=>rfl
 | [e]=>rfl
 | e::f::rest=>by
   show bc (oN an f e) (Lb an (f::rest)) false=_
   rw[Ex an (f::rest),qk,oO];rfl
noncomputable def Rs (ops:List Oper):List Nat:=IQ (fun o _=>qj E o.op) ops 0
theorem Rt (ops:List Oper):Rs E ops=nG E ops:=by
 unfold Rs nG;rw[IS];simp only[sU]
noncomputable def Ey (bM:List Nat) (an:List (List Nat)) (i:Nat):Nat:=Gg (fun e=>oN an i e) bM
theorem IW (bM:List Nat) (an:List (List Nat)) (i:Nat):Ey bM an i=FI bM an i:=by
 unfold Ey FI;rw[OZ];simp only[qk]
noncomputable def Gj (ops:List Oper) (bM:List Nat) (an:List (List Nat)) (k:Nat):List Nat:=
 lK (IQ (fun o i=>bc (qj E o.op) false (Nat.beq (Ey bM an i) k)) ops 0) (ob [] (fun x=> [x]) (ju bM k))
theorem O1 (ops:List Oper) (bM:List Nat) (an:List (List Nat)) (k:Nat):Gj E ops bM an k=group E ops bM an k:=by
 unfold Gj group
 rw[n_,IS,gY]
 congr 1
 · congr 1
   congr 1
   funext ⟨o,i⟩
   show bc (qj E o.op) false (Nat.beq (Ey bM an i) k)=(!fI E o.op&&(FI bM an i==k))
   rw[sU,IW,AD];cases fI E o.op<;>rfl
 · cases bM[k]? <;>rfl
noncomputable def Gk (ops:List Oper) (bM:List Nat) (an:List (List Nat)) (n:Nat):Nat→List Nat:=
 Nat.rec (motive:=fun _=>Nat→List Nat) (fun _=> []) (fun _ ih k=>lK (Gj E ops bM an k) (canon (Nat.add k 1) ih)) n
theorem BE (ops:List Oper) (bM:List Nat) (an:List (List Nat)):∀n k,Gk E ops bM an n k=oC E ops bM an n k
 | 0,_=>rfl
 | n+1,k=>by
   show lK (Gj E ops bM an k) (canon (k+1) (Gk E ops bM an n))=_
   rw[lM,BE ops bM an n,n_,O1];rfl
noncomputable def AZ (bM:List Nat) (an:List (List Nat)) (i:Nat):Nat:=K_ (fun e=>vH (oN an e i)) bM
theorem Lc (bM:List Nat) (an:List (List Nat)) (i:Nat):AZ bM an i=ky bM an i:=by
 unfold AZ ky;rw[O0];congr 2;funext e;rw[qk];cases dI an e i<;>rfl
noncomputable def Ld (n:Nat):List Nat→List Nat:=Nat.rec (motive:=fun _=>List Nat→List Nat) (fun l=>l) (fun m ih l=>ih (m::l)) n
theorem Ez:∀n l,Ld n l=List.range.loop n l
 | 0,_=>rfl
 | n+1,l=>Ez n (n::l)
noncomputable def Gl (ops:List Oper) (an:List (List Nat)) (bM:List Nat) (l:List Nat):List Nat→Nat→Bool:=
 List.rec (motive:=fun _=>List Nat→Nat→Bool) (fun seen k=>bc (yV (fun i=>AB seen i) (Ld (jt ops) [])) (Nat.beq k (jt bM)) false)
  (fun i _ ih seen k=>bc (Nat.ble (Nat.add i 1) (jt ops)) (bc (AB seen i) false (bc (yV (fun j=>AB seen j) (Bz an i []))
   (bc (ob (qj E (default:Oper).op) (fun o=>qj E o.op) (ju ops i)) (bc (ob false (fun e=>Nat.beq e i) (ju bM k)) (canon (Nat.add k 1) (ih (i::seen))) false)
    (bc (Nat.beq (Ey bM an i) k) (ih (i::seen) k) false)) false)) false) l
theorem yX (ops:Array Oper) (an:List (List Nat)) (bM:List Nat):∀l seen k,Gl E ops.toList an bM l seen k=kV E ops an bM l seen k
 | [],seen,k=>by
   show bc (yV (fun i=>AB seen i) (Ld (jt ops.toList) [])) (Nat.beq k (jt bM)) false=_
   rw[oO,ri,Ez,fS,fS]
   simp only[uo]
   unfold kV
   rw[AD,Array.length_toList]
   rfl
 | i::rest,seen,k=>by
   show bc (Nat.ble (i+1) (jt ops.toList)) (bc (AB seen i) false (bc (yV (fun j=>AB seen j) (Bz an i []))
    (bc (ob (qj E (default:Oper).op) (fun o=>qj E o.op) (ju ops.toList i)) (bc (ob false (fun e=>Nat.beq e i) (ju bM k)) (canon (k+1) (Gl E ops.toList an bM rest (i::seen))) false)
     (bc (Nat.beq (Ey bM an i) k) (Gl E ops.toList an bM rest (i::seen) k) false)) false)) false=_
   rw[lM,yX ops an bM rest,yX ops an bM rest,ri,w_,uo,IW,fS]
   simp only[uo]
   rw[show ob (qj E (default:Oper).op) (fun o=>qj E o.op) (ju ops.toList i)=fI E ((ops.getD i default).op) by
    rw[gY,sU]
    rw[show ops.getD i default=(ops.toList[i]?).getD default by rw[Array.getElem?_toList,Array.getD_eq_getD_getElem?]]
    cases ops.toList[i]? with
    | none=>rfl
    | some o=>exact sU E o.op]
   rw[show ob false (fun e=>Nat.beq e i) (ju bM k)=(bM[k]? ==some i) by rw[gY];cases bM[k]? with
    | none=>rfl
    | some e=>rw[Option.some_beq_some,AD];rfl]
   rw[kV,uq]
   simp only[oO]
   rw[←AD (FI bM an i) k,show ops.toList.length=ops.size from Array.length_toList]
   rw[sR,sR]
   show (Nat.ble (i+1) ops.size&&(bif List.contains seen i then false else _))=_
   unfold H9
   cases Nat.ble (i+1) ops.size<;>cases List.contains seen i<;>cases (an.getD i []).all (fun j=>List.contains seen j)<;>cases fI E ((ops.getD i default).op)<;>rfl
noncomputable def nin (x:Nat) (l:List Nat):Bool:=List.rec (motive:=fun _=>Bool) true (fun y _ ih=>bc (Nat.beq x y) false ih) l
noncomputable def Gm (l:List Nat):Bool:=List.rec (motive:=fun _=>Bool) true (fun x tl ih=>bc (nin x tl) ih false) l
theorem Zx (x:Nat) (l:List Nat):nin x l= !l.contains x:=by
 induction l with
 | nil=>rfl
 | cons y tl ih=>
   show bc (Nat.beq x y) false (nin x tl)=_
   rw[ih,List.contains_cons,AD]
   cases Nat.beq x y<;>rfl
theorem yY:∀l,Gm l=nodup l
 | []=>rfl
 | x::tl=>by
   show bc (nin x tl) (Gm tl) false=_
   rw[yY tl,Zx,oO];rfl
noncomputable def Ru {R:Type} (ops:Array Oper) (k:mE→R) (d:R):R:=
 pQ ops.toList fun l=>pQ (Rq l []) fun an=>pQ (Rs E l) fun bM=>pQ (Gk E l bM an (Nat.add (jt bM) 1) 0) fun order=>
 bc (BA l an) (bc (BD l an) (bc (Lb an bM) (bc (Gm bM) (bc (Gl E l an bM order [] 0) (k ⟨an,bM,order⟩) d) d) d) d) d
theorem Rv {R:Type} (ops:Array Oper) (k:mE→R) (d:R):Ru E ops k d=match sy E ops with | some pl=>k pl | none=>d:=by
 unfold Ru sy
 simp only[yW,IT,Rt,BE,IU,IV,Ex,yY,yX,fS]
 generalize AU ops.toList (H8 ops.toList [])=a
 generalize AW ops.toList (H8 ops.toList [])=b
 generalize ub (H8 ops.toList []) (nG E ops.toList)=c
 generalize nodup (nG E ops.toList)=e
 show bc a (bc b (bc c (bc e (bc (kV E ops _ _ (oC E ops.toList _ _ ((nG E ops.toList).length+1) 0) [] 0) _ d) d) d) d) d=_
 generalize kV E ops (H8 ops.toList []) (nG E ops.toList) (oC E ops.toList (nG E ops.toList) (H8 ops.toList []) ((nG E ops.toList).length+1) 0) [] 0=f
 cases a<;>cases b<;>cases c<;>cases e<;>cases f<;>rfl
end Go.Ab.Fa
end
