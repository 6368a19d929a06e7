import Derived.Test.YtfllahfbmaafcaaA3
import Derived.Test.YtfllahfbmaafcaaA0
set_option linter.unusedVariables false
set_option linter.unusedSimpArgs false
section
namespace Go.Ab
variable {E:Env}
def HY (P:Program) (m:Machine) (b:Frame) (k:List Item) (cs:List Frame):Exit→Act→World→Prop
 | .normal,a,w=>Steps P m (lone (b.atR a k) cs w)
 | .exit id,a,w=>∃todo,exitTo id todo=exitTo id k∧Steps P m (lone (b.atR a (.code (.exit id)::todo)) cs w)
 | .ret,a,w=>∃todo,Steps P m (lone (b.atR a (.code .ret::todo)) cs w)
 | .panic chain,a,w=>∃todo,Steps P m (lone {b.atR a todo with mode:= .panicking chain} cs w)
 | _,_,_=>False
theorem HY.of_steps {P:Program} {m m':Machine} {b:Frame} {k:List Item} {cs:List Frame} {e:Exit} {a:Act} {w:World} (hs:Steps P m m') (h:HY P m' b k cs e a w):HY P m b k cs e a w:=by
 cases e with
 | normal=>exact Steps.trans hs h
 | exit id=>obtain ⟨t,h1,h2⟩:=h;exact ⟨t,h1,Steps.trans hs h2⟩
 | ret=>obtain ⟨t,h2⟩:=h;exact ⟨t,Steps.trans hs h2⟩
 | panic c=>obtain ⟨t,h2⟩:=h;exact ⟨t,Steps.trans hs h2⟩
 | goto l=>exact h.elim
 | outgrown=>exact h.elim
theorem HY.pass {P:Program} {m:Machine} {b:Frame} {x:Item} {k:List Item} {cs:List Frame} {e:Exit} {a:Act} {w:World} (hx:∀id,exitTo id (x::k)=exitTo id k) (hn:e≠ .normal) (h:HY P m b (x::k) cs e a w):HY P m b k cs e a w:=by
 cases e with
 | normal=>exact absurd rfl hn
 | exit id=>obtain ⟨t,h1,h2⟩:=h;exact ⟨t,h1.trans (hx id),h2⟩
 | ret=>exact h
 | panic c=>exact h
 | goto l=>exact h.elim
 | outgrown=>exact h.elim
structure pU (E:Env) (φ:Ph) (h:aw) (w:World) (b:Frame) (K:Bool→List Frame) (k:List Item) (m:Machine) (e:h_) (s':St):Prop where
 is:∃φ' w' a' e',ZT φ' e e'∧SR φ' s'.ts s'.ds a'∧OK E φ' s'.h w'∧Fr φ h w φ' s'.h w'∧mV φ' b K s'.rc∧HY E.P m b k (cur K s'.rc) e' a' w'
theorem pU.of_steps {φ:Ph} {h:aw} {w:World} {b:Frame} {K:Bool→List Frame} {k:List Item} {m m':Machine} {e:h_} {s':St} (hs:Steps E.P m m') (x:pU E φ h w b K k m' e s'):pU E φ h w b K k m e s':=by
 obtain ⟨φ',w',a',e',h1,h2,h3,h4,h5,h6⟩:=x.is
 exact ⟨φ',w',a',e',h1,h2,h3,h4,h5,.of_steps hs h6⟩
theorem pU.later {φ φ₁:Ph} {h h₁:aw} {w w₁:World} {b:Frame} {K:Bool→List Frame} {k:List Item} {m:Machine} {e:h_} {s':St} (f:Fr φ h w φ₁ h₁ w₁) (x:pU E φ₁ h₁ w₁ b K k m e s'):pU E φ h w b K k m e s':=by
 obtain ⟨φ',w',a',e',h1,h2,h3,h4,h5,h6⟩:=x.is
 exact ⟨φ',w',a',e',h1,h2,h3,f.trans h4,h5,h6⟩
theorem OK.made {φ:Ph} {h h':aw} {w:World} (ok:OK E φ h w) {o:aR} {O:Obj} (hn:h.new o=some h') (ho:OR E (φ.add h.nx ⟨w.heap.size,0,0⟩) o ⟨w.heap.size,0,0⟩ (some O)):
 OK E (φ.add h.nx ⟨w.heap.size,0,0⟩) h' (w.alloc O)∧Fr φ h w (φ.add h.nx ⟨w.heap.size,0,0⟩) h' (w.alloc O)∧φ.le (φ.add h.nx ⟨w.heap.size,0,0⟩):=
 ok.fresh (w':=w.alloc O) hn ⟨w.heap.size,0,0⟩ (by rw[show (w.alloc O).heap=w.heap.push O from rfl];simpa using ho)
  (fun c eu hc=>by rw[show (w.alloc O).heap=w.heap.push O from rfl,Array.getElem?_push,if_neg (by simpa using eu)]) (by simp) (Nat.le_refl _) rfl rfl rfl
theorem OK.Z4 {φ:Ph} {h:aw} {w:World} (ok:OK E φ h w) {i:Nat} {o o':aR} {l:Loc} (hg:h.get i=some o) (Hg:o.rw=true) (hl:φ i=some l) {O:Obj} (ho:OR E φ o' l (some O)):
 OK E φ (h.put i (some o')) (w.putObj l.dZ O)∧Fr φ h w φ (h.put i (some o')) (w.putObj l.dZ O):=by
 have j0:l.dZ<w.heap.size:=by
  rcases Nat.lt_or_ge l.dZ w.heap.size with h1 | h1
  · exact h1
  · have:=ok.live i o l hg hl
    rw[Array.getElem?_eq_none h1] at this
    exact this.absurd.elim
 exact ok.change hg Hg hl (by rw[World.putObj_heap_same j0];exact ho) (fun c hc=>World.putObj_heap_other hc) World.putObj_size rfl rfl rfl
theorem OK.shut {φ:Ph} {h:aw} {w:World} (ok:OK E φ h w) {i:Nat} {o:aR} {l:Loc} (hg:h.get i=some o) (Hg:o.rw=true) (hl:φ i=some l) (O:Obj):
 OK E φ (h.put i none) (w.putObj l.dZ O)∧Fr φ h w φ (h.put i none) (w.putObj l.dZ O):=by
 have fP:∀j p,(h.put i none).get j=some p→h.get j=some p∧j≠i:=fun j p hj=>by
  by_cases e:i=j
  · subst e;rw[aw.bS] at hj;simp at hj
  · rw[aw.bx e] at hj;exact ⟨hj,Ne.symm e⟩
 refine ⟨⟨ok.Ao,ok.nx,ok.uW,fun j p m hj hm=>?_,fun j k p q m n hj hk=>ok.inj j k p q m n (fP j p hj).1 (fP k q hk).1⟩,
  ⟨Ph.le_refl φ,fun _ _=>rfl,Nat.le_refl _,rfl,rfl,rfl,by simp,fun b _ hn=>World.putObj_heap_other (fun e=>hn i o l hg Hg hl e.symm),fun j p m hj hr hm=> .inr ⟨j,p,m,(fP j p hj).1,hr,hm,rfl⟩⟩⟩
 obtain ⟨nD,eu⟩:=fP j p hj
 rw[World.putObj_heap_other (fun e=>eu (ok.inj j i p o m l nD hg hm hl (.inr Hg) e))]
 exact ok.live j p m nD hm
theorem HZ {s:St} {dn:Nat} {h1:aw} {ZC:List pw} (ho:Mv s=some (dn,h1,ZC)) {φ:Ph} {a:Act} {w:World} {b:Frame} {K:Bool→List Frame} (hs:SR φ s.ts s.ds a) (ok:OK E φ s.h w) (fY:mV φ b K s.rc)
 (ps:Array Tmp) (as_ bd:Code):∃φ1 w1 ld mark,φ.le φ1∧OK E φ1 h1 w1∧Fr φ s.h w φ1 h1 w1∧φ1 dn=some ld∧SR φ1 s.ts ZC {a with defers:=mark++a.defers}∧
  (Instr.enterLoop b.fn a.tmps ps as_ bd b.roundOf).run E.P w= .ok (w1.heap.size,mark) (w1.alloc (.loop {state:= .ready,pending:=none,fn:=b.fn,tmps:=a.tmps,params:=ps,assign:=as_,body:=bd,defers:=ld.dZ})):=by
 unfold Mv at ho
 split at ho
 · rename_i l hl
   split at ho
   · rename_i st pd ts qn uc Vk Vl hg
     simp at ho;obtain ⟨rfl,rfl,rfl⟩:=ho
     rw[hl] at fY
     obtain ⟨ll,hφ,QG⟩:=fY
     obtain ⟨_,r,hr,yB⟩:=ok.live _ _ _ hg hφ
     obtain ⟨ld,hd1,VH⟩:=yB.defers
     refine ⟨φ,w,ld,[],Ph.le_refl φ,ok,Fr.refl _ _ _,hd1,⟨hs.ts,hs.ds⟩,?_⟩
     rw[QG,run_enterLoop_inner hr,VH]
   · simp at ho
 · rename_i C8
   split at ho
   · rename_i h1' hn
     simp at ho;obtain ⟨rfl,rfl,rfl⟩:=ho
     obtain ⟨HW,fr1,hle⟩:=ok.made (O:= .deferred (some [])) hn ⟨rfl,rfl⟩
     have gH:(φ.add s.h.nx ⟨w.heap.size,0,0⟩) s.h.nx=some ⟨w.heap.size,0,0⟩:=by simp [Ph.add]
     refine ⟨_,_,⟨w.heap.size,0,0⟩,[{target:= .collected w.heap.size,args:= #[]}],hle,HW,fr1,gH,⟨hs.ts.mono hle,⟨_,gH,rfl⟩,hs.ds.mono hle⟩,?_⟩
     rw[fY.plain (Bg C8),run_enterLoop_outer]
     simp
   · simp at ho
theorem QT {c:Code} {e:h_} (h:Hr (some c)=some e):(∃id,c= .exit id∧e= .exit id)∨(c= .ret∧e= .ret):=by
 cases c<;>simp [Hr] at h
 · exact .inl ⟨_,rfl,h.symm⟩
 · exact .inr ⟨rfl,h.symm⟩
theorem FN {call:bj} (dp:hF E call) {f:Operand} {ps:Array Tmp} {as_ bd:Code} {s s':St} {e:h_} (h:kP E call f ps as_ bd s= .ok e s')
 {φ:Ph} {a:Act} {w:World} {b:Frame} {k:List Item} {K:Bool→List Frame} (hs:SR φ s.ts s.ds a) (ok:OK E φ s.h w) (fY:mV φ b K s.rc) (C9:(E.P.funcs[b.fn]?).isSome=true):
 pU E φ s.h w b K k (lone (b.atR a (.code (.rangeFunc f ps as_ bd)::k)) (cur K s.rc) w) e s':=by
 unfold kP at h
 split at h
 · rename_i g first captured hf
   split at h
   · rename_i dn h1 ZC ho
     split at h
     · rename_i h2 hn
       have hfv:=mT ok.gl hs.ts hf
       generalize kC:a.eval f=cv at hfv
       obtain ⟨VA,hZ,rfl,hfs,hcs⟩:=hfv.v7
       obtain ⟨φ1,w1,ld,mark,acV,HW,fr1,hld,rO,u_⟩:=HZ ho hs ok fY ps as_ bd
       obtain ⟨Bm,Z0,VI⟩:=HW.made (O:= .loop {state:= .ready,pending:=none,fn:=b.fn,tmps:=a.tmps,params:=ps,assign:=as_,body:=bd,defers:=ld.dZ}) hn
        ⟨rfl,_,rfl,⟨rfl,rfl,hs.ts.mono (Ph.le_trans acV (fun j m hm=>by
         unfold Ph.add;split
         · rename_i e;subst e;exact absurd (HW.Ao _ _ hm) (Nat.lt_irrefl _)
         · exact hm)),rfl,rfl,rfl,⟨ld,by
         unfold Ph.add;split
         · rename_i e;subst e;exact absurd (HW.Ao _ _ hld) (Nat.lt_irrefl _)
         · exact hld,rfl⟩,C9⟩⟩
       have hle:=Ph.le_trans acV VI
       have gH:(φ1.add h1.nx ⟨w1.heap.size,0,0⟩) h1.nx=some ⟨w1.heap.size,0,0⟩:=by simp [Ph.add]
       generalize hφ2:φ1.add h1.nx ⟨w1.heap.size,0,0⟩=φ2 at Bm Z0 VI hle gH
       have hl:LR φ2 (first++[.cO h1.nx]++captured) (VA.toList++[.func (.yield w1.heap.size) #[] #[]]++hZ.toList):=
        ((hfs.mono hle).append (.cons (.yield gH) (.nil φ2))).append (hcs.mono hle)
       have Dk:∀w',(resolve a.eval (rangeCall f w1.heap.size) 0).run E.P w'= .ok {target:= .fn (.func g) hZ,args:=VA++ #[.func (.yield w1.heap.size) #[] #[]]} w':=fun w'=>by
        have QU:a.eval (.const (.func (.yield w1.heap.size) #[] #[]))= .func (.yield w1.heap.size) #[] #[]:=rfl
        simp [resolve,Deferred.ofValue,kC,QU]
       have start:∀n st,nX E φ2 (w1.alloc (.loop {state:= .ready,pending:=none,fn:=b.fn,tmps:=a.tmps,params:=ps,assign:=as_,body:=bd,defers:=ld.dZ})) (.fn g) (VA.toList++[.func (.yield w1.heap.size) #[] #[]]++hZ.toList) n st→
        step E.P (lone (b.atR a (.code (.rangeFunc f ps as_ bd)::k)) (cur K s.rc) w)= .next (lone st (b.atR {a with defers:=mark++a.defers} (.inRangeFunc w1.heap.size::k)::cur K s.rc)
         (w1.alloc (.loop {state:= .ready,pending:=none,fn:=b.fn,tmps:=a.tmps,params:=ps,assign:=as_,body:=bd,defers:=ld.dZ}))):=fun n st hp=>by
        cases hp with
        | fn _ _ hr=>
          have hinv:(invoke (Target.fn (.func g) hZ) (VA++ #[.func (.yield w1.heap.size) #[] #[]])).run E.P (w1.alloc (.loop {state:= .ready,pending:=none,fn:=b.fn,tmps:=a.tmps,params:=ps,assign:=as_,body:=bd,defers:=ld.dZ}))=
           .ok (.enter g (VA.toList++[Value.func (.yield w1.heap.size) #[] #[]]++hZ.toList).toArray) (w1.alloc (.loop {state:= .ready,pending:=none,fn:=b.fn,tmps:=a.tmps,params:=ps,assign:=as_,body:=bd,defers:=ld.dZ})):=by
           have e:(VA.toList++[Value.func (.yield w1.heap.size) #[] #[]]++hZ.toList).toArray=VA++ #[Value.func (.yield w1.heap.size) #[] #[]]++hZ:=by
            apply Array.toList_inj.1;simp
           rw[e] at hr ⊢
           simpa [invoke] using hr
          exact stepR_rangeFunc u_ (Dk _) hinv
       split at h
       ·
        rename_i v h3 hc
        obtain ⟨n,st,hp,fJ⟩:=dp.ret _ _ _ _ _ hc φ2 _ _ Bm trivial hl
        obtain ⟨φ3,w3,v',_,ok3,U_,ir⟩:=fJ (b.atR {a with defers:=mark++a.defers} (.inRangeFunc w1.heap.size::k)) (cur K s.rc)
        rw[finish_atR_inRangeFunc] at ir
        split at h
        · simp at h
        · rename_i st' gV jQ qn uc Vk Vl C8 hg
          split at h
          · rename_i e1 hj
            simp at h;obtain ⟨rfl,rfl⟩:=h
            have P5:=U_.ext _ _ gH
            obtain ⟨_,r,hr,yB⟩:=ok3.live _ _ _ hg P5
            have acW:r.state≠ .busy:=by rw[yB.state];intro e;subst e;exact C8 rfl
            obtain ⟨ok4,fr4⟩:=ok3.Z4 (o':= .loop .exhausted gV jQ qn uc Vk Vl) hg rfl P5 (O:= .loop {r with state:= .exhausted}) ⟨rfl,_,rfl,⟨rfl,yB.pending,yB.tmps,yB.params,yB.assign,yB.body,yB.defers,yB.fn⟩⟩
            obtain ⟨W4,hW4⟩:∃W4,W4=w3.putObj w1.heap.size (.loop {r with state:= .exhausted}):=⟨_,rfl⟩
            have ok4:OK E φ3 (h3.put h1.nx (some (.loop .exhausted gV jQ qn uc Vk Vl))) W4:=by rw[hW4];exact ok4
            have fr4:Fr φ3 h3 w3 φ3 (h3.put h1.nx (some (.loop .exhausted gV jQ qn uc Vk Vl))) W4:=by rw[hW4];exact fr4
            have acX:=stepR_endRangeFunc (P:=E.P) (b:=b) (a:={a with defers:=mark++a.defers}) (k:=k) (cs:=cur K s.rc) (run_endLoop hr acW)
            rw[←hW4] at acX
            have nG:=((fr1.trans Z0).trans U_).trans fr4
            have iR:=Steps.trans (.head (start n st hp) ir) (.one acX)
            rw[yB.pending] at iR
            have Z5:=Ph.le_trans VI U_.ext
            have QV:=Ph.le_trans hle U_.ext
            cases gV with
            | none=>
              simp [Hr] at hj;subst hj
              exact ⟨φ3,_,_,_,.normal,rO.mono Z5,ok4,nG,fY.mono QV,iR⟩
            | some c=>
              rcases QT hj with ⟨id,rfl,rfl⟩ | ⟨rfl,rfl⟩
              · exact ⟨φ3,_,_,_,.exit id,rO.mono Z5,ok4,nG,fY.mono QV,k,rfl,iR⟩
              · exact ⟨φ3,_,_,_,.ret,rO.mono Z5,ok4,nG,fY.mono QV,k,iR⟩
          · simp at h
        · simp at h
       ·
        rename_i v h3 hc
        simp at h;obtain ⟨rfl,rfl⟩:=h
        obtain ⟨n,st,hp,fJ⟩:=dp.panic _ _ _ _ _ hc φ2 _ _ Bm trivial hl
        obtain ⟨φ3,w3,v',hv,ok3,U_,ir⟩:=fJ (b.atR {a with defers:=mark++a.defers} (.inRangeFunc w1.heap.size::k)) (cur K s.rc)
        rw[Frame.raise_atR] at ir
        exact ⟨φ3,w3,_,_,.panic v v' hv,rO.mono (Ph.le_trans VI U_.ext),ok3,(fr1.trans Z0).trans U_,fY.mono (Ph.le_trans hle U_.ext),_,.head (start n st hp) ir⟩
       · simp at h
     · simp at h
   · simp at h
 · simp at h
end Go.Ab
end
section
namespace Go.Ab
variable {E:Env}
theorem vg (hE:j5 E) {call:bj} (dp:hF E call) {ops:Array Oper}:∀{l:List Oper} {is:List Nat} (_:is.length=l.length) (_:∀(j i:Nat),is[j]? =some i→l[j]? =ops[i]?) {s s':St} {e:h_} (_:jO E call ops l s= .ok e s')
 {φ:Ph} {a:Act} {w:World} {b:Frame} {k:List Item} {K:Bool→List Frame} (_:SR φ s.ts s.ds a) (_:OK E φ s.h w) (_:mV φ b K s.rc),
 pU E φ s.h w b K k (lone (b.atR a (.inRegion ops is::k)) (cur K s.rc) w) e s'
 | [],is,hl,hi,s,s',e,h,φ,a,w,b,k,K,hs,ok,fY=>by
   cases is with
   | cons _ _=>simp at hl
   | nil=>
     simp [jO] at h;obtain ⟨rfl,rfl⟩:=h
     exact ⟨φ,w,a,_,.normal,hs,ok,Fr.refl _ _ _,fY,.one stepR_region_end⟩
 | o::l,is,hl,hi,s,s',e,h,φ,a,w,b,k,K,hs,ok,fY=>by
   cases is with
   | nil=>simp at hl
   | cons i is=>
     have ho:ops[i]? =some o:=by have:=hi 0 i (by simp);simpa using this.symm
     have U8:is.length=l.length:=by simpa using hl
     have Fl:∀(j i':Nat),is[j]? =some i'→l[j]? =ops[i']? :=fun j i' hj=>by have:=hi (j+1) i' (by simpa using hj);simpa using this
     simp only[jO] at h
     have U9:=vb (ops:=ops) hs.ts o
     split at h
     · rename_i hw
       rw[←U9] at hw
       split at h
       · rename_i s1 pK
         obtain ⟨φ1,w1,a1,e1,x1,x2,x3,x4,x5,x6⟩:=(DU hE dp ho pK hs ok fY hw (rest:=is) (k:=k)).is
         cases x1
         exact ((vg hE dp U8 Fl h x2 x3 x5).of_steps x6).later x4
       · rename_i eu
         obtain ⟨φ1,w1,a1,e1,x1,x2,x3,x4,x5,x6⟩:=(DU hE dp ho h hs ok fY hw (rest:=is) (k:=k)).is
         cases x1 with
         | normal=>exact (eu _ h).elim
         | exit=>exact x6.elim
         | ret=>exact x6.elim
         | panic v v' hv=>exact ⟨φ1,w1,a1,_,.panic v v' hv,x2,x3,x4,x5,x6⟩
     · rename_i hw
       have qw:SR φ (dJ s.ts o.dst AV.undef) s.ds (a.put o.dst undef):=hs.put o.dst (VR.undef φ)
       refine (vg hE dp U8 Fl h qw ok fY).of_steps (.one ?_)
       have:=stepR_op_skip (P:=E.P) (b:=b) (a:=a) (k:=k) (cs:=cur K s.rc) (w:=w) (ops:=ops) (i:=i) (rest:=is) (by rw[ho];simp;rw[U9];simpa using hw)
       rw[this,ho];rfl
set_option maxHeartbeats 1000000 in
theorem vh (hE:j5 E) {call:bj} (dp:hF E call):∀(n:Nat) (c:Code) {s s':St} {e:h_} (_:exec E call n c s= .ok e s')
 {φ:Ph} {a:Act} {w:World} {b:Frame} {k:List Item} {K:Bool→List Frame} (_:SR φ s.ts s.ds a) (_:OK E φ s.h w) (_:mV φ b K s.rc) (_:(E.P.funcs[b.fn]?).isSome=true),
 pU E φ s.h w b K k (lone (b.atR a (.code c::k)) (cur K s.rc) w) e s'∧∀c',c= .loop c'→pU E φ s.h w b K k (lone (b.atR a (.code c':: .inLoop c'::k)) (cur K s.rc) w) e s':=by
 intro n
 induction n with
 | zero=>intro c s s' e h;simp [exec] at h
 | succ n ih2=>
   have ih:∀(c:Code) {s s':St} {e:h_} (_:exec E call n c s= .ok e s')
    {φ:Ph} {a:Act} {w:World} {b:Frame} {k:List Item} {K:Bool→List Frame} (_:SR φ s.ts s.ds a) (_:OK E φ s.h w) (_:mV φ b K s.rc) (_:(E.P.funcs[b.fn]?).isSome=true),
    pU E φ s.h w b K k (lone (b.atR a (.code c::k)) (cur K s.rc) w) e s':=fun c _ _ _ h _ _ _ _ _ _ hs ok fY C9=>(ih2 c h hs ok fY C9).1
   intro c s s' e h φ a w b k K hs ok fY C9
   have Yd:∀c',c= .loop c'→pU E φ s.h w b K k (lone (b.atR a (.code c':: .inLoop c'::k)) (cur K s.rc) w) e s':=by
    rintro c rfl
    simp only[exec] at h
    split at h
    · rename_i s1 h1
      obtain ⟨φ1,w1,a1,e1,x1,x2,x3,x4,x5,x6⟩:=(ih c h1 hs ok fY C9 (k:= .inLoop c::k)).is
      cases x1
      exact (((ih2 (.loop c) h x2 x3 x5 C9).2 c rfl).of_steps (Steps.trans x6 (.one stepR_inLoop))).later x4
    · rename_i eu
      obtain ⟨φ1,w1,a1,e1,x1,x2,x3,x4,x5,x6⟩:=(ih c h hs ok fY C9 (k:= .inLoop c::k)).is
      refine ⟨φ1,w1,a1,e1,x1,x2,x3,x4,x5,.pass (x:= .inLoop c) (fun _=>rfl) ?_ x6⟩
      cases x1 with
      | normal=>exact (eu _ h).elim
      | exit=>simp
      | ret=>simp
      | panic=>simp
   refine ⟨?_,Yd⟩
   cases c with
   | skip=>simp [exec] at h;obtain ⟨rfl,rfl⟩:=h;exact ⟨φ,w,a,_,.normal,hs,ok,Fr.refl _ _ _,fY,.one stepR_skip⟩
   | label l=>simp [exec] at h;obtain ⟨rfl,rfl⟩:=h;exact ⟨φ,w,a,_,.normal,hs,ok,Fr.refl _ _ _,fY,.one stepR_label⟩
   | ret=>simp [exec] at h;obtain ⟨rfl,rfl⟩:=h;exact ⟨φ,w,a,_,.ret,hs,ok,Fr.refl _ _ _,fY,k,Steps.refl _ _⟩
   | exit id=>simp [exec] at h;obtain ⟨rfl,rfl⟩:=h;exact ⟨φ,w,a,_,.exit id,hs,ok,Fr.refl _ _ _,fY,k,rfl,Steps.refl _ _⟩
   | seq x y=>
     simp only[exec] at h
     split at h
     · rename_i s1 h1
       obtain ⟨φ1,w1,a1,e1,x1,x2,x3,x4,x5,x6⟩:=(ih x h1 hs ok fY C9 (k:= .code y::k)).is
       cases x1
       exact ((ih y h x2 x3 x5 C9).of_steps (.head stepR_seq x6)).later x4
     · rename_i eu
       obtain ⟨φ1,w1,a1,e1,x1,x2,x3,x4,x5,x6⟩:=(ih x h hs ok fY C9 (k:= .code y::k)).is
       refine ⟨φ1,w1,a1,e1,x1,x2,x3,x4,x5,.of_steps (.one stepR_seq) (.pass (x:= .code y) (fun _=>rfl) ?_ x6)⟩
       cases x1 with
       | normal=>exact (eu _ h).elim
       | exit=>simp
       | ret=>simp
       | panic=>simp
   | cond x y z=>
     simp only[exec] at h
     split at h
     · rename_i hx
       have h1:=mT ok.gl hs.ts hx
       generalize kC:a.eval x=cv at h1
       cases h1
       exact (ih y h hs ok fY C9).of_steps (.one (stepR_cond kC))
     · rename_i hx
       have h1:=mT ok.gl hs.ts hx
       generalize kC:a.eval x=cv at h1
       cases h1
       exact (ih z h hs ok fY C9).of_steps (.one (stepR_cond kC))
     · simp at h
   | block id c=>
     simp only[exec] at h
     split at h
     · rename_i PT s1 h1
       obtain ⟨φ1,w1,a1,e1,x1,x2,x3,x4,x5,x6⟩:=(ih c h1 hs ok fY C9 (k:= .inBlock id::k)).is
       cases x1
       split at h
       · rename_i hid
         simp at h;obtain ⟨rfl,rfl⟩:=h
         obtain ⟨todo,ht,ir⟩:=x6
         exact ⟨φ1,w1,a1,_,.normal,x2,x3,x4,x5,.head stepR_block (Steps.trans ir (.one (stepR_exit (by rw[ht];simp [exitTo,hid]))))⟩
       · rename_i hid
         simp at h;obtain ⟨rfl,rfl⟩:=h
         obtain ⟨todo,ht,ir⟩:=x6
         refine ⟨φ1,w1,a1,_,.exit PT,x2,x3,x4,x5,todo,?_,.head stepR_block ir⟩
         have:(id==PT)=false:=by simp;exact fun h=>hid h.symm
         rw[ht];simp [exitTo,this]
     · rename_i eu
       obtain ⟨φ1,w1,a1,e1,x1,x2,x3,x4,x5,x6⟩:=(ih c h hs ok fY C9 (k:= .inBlock id::k)).is
       cases x1 with
       | normal=>exact ⟨φ1,w1,a1,_,.normal,x2,x3,x4,x5,.head stepR_block (Steps.trans x6 (.one stepR_inBlock))⟩
       | exit PT=>exact (eu _ _ h).elim
       | ret=>exact ⟨φ1,w1,a1,_,.ret,x2,x3,x4,x5,.of_steps (e:= .ret) (k:=k) (.one stepR_block) x6⟩
       | panic v v' hv=>exact ⟨φ1,w1,a1,_,.panic v v' hv,x2,x3,x4,x5,.of_steps (e:= .panic _) (k:=k) (.one stepR_block) x6⟩
   | loop c=>exact (Yd c rfl).of_steps (.one stepR_loop)
   | region id ops draw=>
     simp only[exec] at h
     cases draw with
     | false=>
       have pK:=vg hE dp (ops:=ops) (l:=ops.toList) (is:=List.range ops.size) (by simp) (fun j i hj=>by
        have:=List.getElem?_eq_some_iff.1 hj
        obtain ⟨h1,h2⟩:=this
        simp at h1 h2;subst h2;simp) h hs ok fY (b:=b) (k:=k)
       exact pK.of_steps (.one stepR_region)
     | true=>
       obtain ⟨h1,h2,⟨rfl,φ',a',w',x1,x2,x3,x4,x5⟩ | ⟨v,rfl,hp⟩⟩:=HX hE hE.mixed dp h hs ok fY (b:=b) (k:=k) id
       · refine ⟨φ',w',a',_,.normal,⟨x1,by rw[h2,x2];exact hs.ds.mono x4.ext⟩,x3,x4,by rw[h1];exact fY.mono x4.ext,?_⟩
         rw[h1];exact x5
       · obtain ⟨φ',a',w',v',todo,x0,x1,x2,x3,x4,x5⟩:=hp.is
         refine ⟨φ',w',a',_,.panic v v' x0,⟨x1,by rw[h2,x2];exact hs.ds.mono x4.ext⟩,x3,x4,by rw[h1];exact fY.mono x4.ext,todo,?_⟩
         rw[h1];exact x5
   | rangeFunc f ps a1 b1=>
     simp only[exec] at h
     exact FN dp h hs ok fY C9
   | scope c=>
     simp only[exec] at h
     have s1:∀{m},Steps E.P (lone (b.atR a (.code c:: .inScope c::k)) (cur K s.rc) w) m→Steps E.P (lone (b.atR a (.code (.scope c)::k)) (cur K s.rc) w) m:=fun q=> .head (step_lone_go (by simp [stepG,stepG.exec,Frame.atR])) q
     obtain ⟨φ1,w1,a1,e1,x1,x2,x3,x4,x5,x6⟩:=(ih c h hs ok fY C9 (k:= .inScope c::k)).is
     cases x1 with
     | normal=>exact ⟨φ1,w1,a1,_,.normal,x2,x3,x4,x5,s1 (Steps.trans x6 (.one (step_lone_go (by simp [stepG,stepG.exec,Frame.atR]))))⟩
     | exit PT=>exact ⟨φ1,w1,a1,_,.exit PT,x2,x3,x4,x5,.of_steps (e:= .exit PT) (k:=k) (s1 (Steps.refl _ _)) (.pass (x:= .inScope c) (fun _=>rfl) (by simp) x6)⟩
     | ret=>exact ⟨φ1,w1,a1,_,.ret,x2,x3,x4,x5,.of_steps (e:= .ret) (k:=k) (s1 (Steps.refl _ _)) (.pass (x:= .inScope c) (fun _=>rfl) (by simp) x6)⟩
     | panic v v' hv=>exact ⟨φ1,w1,a1,_,.panic v v' hv,x2,x3,x4,x5,.of_steps (e:= .panic _) (k:=k) (s1 (Steps.refl _ _)) (.pass (x:= .inScope c) (fun _=>rfl) (by simp) x6)⟩
   | goto l=>simp [exec] at h
   | refuse why=>simp [exec] at h
end Go.Ab
end
section
namespace Go.Ab
variable {E:Env}
theorem H0 {φ:Ph} {h:aw} {w:World} (ok:OK E φ h w) {ts:List AV} {tmps:Array Value} (ht:LR φ ts tmps.toList):∀{l:List ResultVar} {vs:List AV} (_:jw E h ts l=some vs),
 ∃qx,LR φ vs qx∧(l.mapM (fun | .tmp t=>pure (tmps.getD t undef) | .cell a t=>do loadVar t (←asAddr (tmps.getD a undef)):ResultVar→Sem Value)).run E.P w= .ok qx w
 | [],vs,h=>by simp [jw] at h;subst h;exact ⟨[],LR.nil φ,rfl⟩
 | r::rest,vs,h=>by
   have fP:∀t,VR φ (ts.getD t AV.undef) (tmps.getD t undef):=fun t=>by
    have:=ht.getD (VR.undef φ) t
    rw[show tmps.getD t undef=tmps.toList.getD t undef by simp [Array.getD_eq_getD_getElem?,List.getD]]
    exact this
   simp only[jw] at h
   split at h
   · simp at h
   · rename_i v hv
     split at h
     · simp at h
     · rename_i vs0 Hy
       simp at h;subst h
       obtain ⟨qx,hl,hr⟩:=H0 ok ht Hy
       cases r with
       | tmp t=>
         simp at hv;subst hv
         refine ⟨tmps.getD t undef::qx,.cons (by simpa using fP t) hl,?_⟩
         simp only[List.mapM_cons,Sem.run_bind,Sem.run_pure,Result.andThen_ok,hr]
       | cell ad t=>
         simp only at hv
         obtain ⟨x',hx,fJ⟩:=DQ ok (fP ad) hv
         refine ⟨x'::qx,.cons hx hl,?_⟩
         have hr0:=fJ w rfl
         have:(do loadVar t (←asAddr (tmps.getD ad undef)):Sem Value).run E.P w= .ok x' w:=by
          have hv2:=fP ad
          unfold bE at hv
          split at hv
          · rename_i i o heq
            rw[heq] at hv2
            generalize hq:tmps.getD ad undef=q at hv2 hr0
            cases hv2
            simpa [Instr.loadAt,Instr.sureAddr,asAddr] using hr0
          · simp at hv
         simp only[List.mapM_cons]
         rw[Sem.run_bind,this]
         simp only[Sem.run_bind,Sem.run_pure,Result.andThen_ok,hr]
theorem sf {φ:Ph} {h:aw} {w:World} (ok:OK E φ h w) {ts:List AV} {tmps:Array Value} (ht:LR φ ts tmps.toList) {fn:Func} {vs:List AV} (hv:jw E h ts fn.results.toList=some vs):
 ∃v',VR φ (fO vs) v'∧(results fn tmps).run E.P w= .ok v' w:=by
 obtain ⟨qx,hl,hr⟩:=H0 ok ht hv
 have hm:(fn.results.mapM (fun | .tmp t=>pure (tmps.getD t undef) | .cell a t=>do loadVar t (←asAddr (tmps.getD a undef)):ResultVar→Sem Value)).run E.P w= .ok qx.toArray w:=by
  rw[Array.mapM_eq_mapM_toList]
  show Sem.run E.P (Functor.map List.toArray (_:Sem (List Value))) w=_
  rw[Sem.run_map]
  refine (congrArg (fun r=>Result.andThen r _) hr).trans ?_
  rfl
 refine ⟨if h:qx.toArray.size=1 then qx.toArray[0] else .tuple qx.toArray,?_,?_⟩
 · cases vs with
   | nil=>rw[hl.fW];exact VR.tuple' (LR.nil φ)
   | cons v vs=>
     obtain ⟨y,ys,rfl,hy,ud⟩:=hl.cf
     cases vs with
     | nil=>rw[ud.fW];simpa [fO] using hy
     | cons v2 vs2=>
       obtain ⟨y2,ys2,rfl,hy2,agv⟩:=ud.cf
       have:¬(y::y2::ys2).toArray.size=1:=by simp
       rw[dif_neg this]
       exact VR.tuple' (.cons hy (.cons hy2 agv))
 · unfold results
   rw[Sem.run_bind]
   refine (congrArg (fun r=>Result.andThen r _) hm).trans ?_
   rfl
def bare (f:FuncId) (kind:CallKind):Frame:={fn:=f,tmps:= #[],todo:=[],defers:=[],mode:= .run,kind:=kind,roundOf:=none}
theorem QW {P:Program} {f:FuncId} {fn:Func} {c:Code} (hf:P.funcs[f]? =some fn) (hb:fn.body=some c) (vs:List Value) (kind:CallKind):
 Frame.enter P f vs.toArray kind=(bare f kind).atR {tmps:=vs.toArray++Array.replicate (fn.ntmps - vs.length) undef,defers:=[]} [.code c]:=by
 simp [Frame.enter,Frame.atR,hf,hb,bare]
theorem sh (hE:j5 E) {call:bj} (dp:hF E call) {fuel:Nat} {f:FuncId} {fn:Func} {c:Code} (hf:E.P.funcs[f]? =some fn) (hb:fn.body=some c) {args:List AV} {h:aw} {rc:RC} {e:h_} {s':St}
 (fQ:mo E call fuel fn c args h rc= .ok e s') {φ:Ph} {w:World} {vs:List Value} (ok:OK E φ h w) (hl:LR φ args vs) {kind:CallKind} {K:Bool→List Frame} (fY:mV φ (bare f kind) K rc):
 pU E φ h w (bare f kind) K [] (lone (Frame.enter E.P f vs.toArray kind) (cur K rc) w) e s':=by
 rw[QW hf hb]
 refine (vh hE dp fuel c (s:={ts:=args++List.replicate (fn.ntmps - args.length) AV.undef,h,ds:=[],rc}) fQ (a:={tmps:=vs.toArray++Array.replicate (fn.ntmps - vs.length) undef,defers:=[]}) (b:=bare f kind) (k:=[]) ⟨?_,trivial⟩ ok fY (by show (E.P.funcs[f]?).isSome=true;rw[hf];rfl)).1
 have:=hl.append (LR.replicate (VR.undef φ) (fn.ntmps - args.length))
 rw[hl.1] at this
 simpa [hl.1] using this
theorem enters {E:Env} (hE:j5 E) {f:FuncId} {fn:Func} {c:Code} (hf:E.P.funcs[f]? =some fn) (hb:fn.body=some c) (vs:Array Value) (w:World):(callFunc f vs).run E.P w= .ok (.enter f vs) w:=by
 have hn:=hE.names f fn hf
 have:(fn.name== "runtime.NumGoroutine")=false:=by rw[beq_eq_false_iff_ne];exact hn
 simp only[callFunc,Sem.run_bind,run_program,Result.andThen_ok,hf,this,Bool.false_eq_true,if_false,hb,Option.isNone_some,Sem.run_pure]
noncomputable def g_ (E:Env) (call:bj) (fuel:Nat) (g:FuncId) (as_:List AV) (h:aw) (rc:RC):Option (aw×RC):=match E.P.funcs[g]? with
 | none=>none
 | some fg=>match fg.body with
   | none=>none
   | some bg=>match mo E call fuel fg bg as_ h rc with
     | .ok .normal s'=>if s'.ds.isEmpty&&(jw E s'.h s'.ts fg.results.toList).isSome then some (s'.h,s'.rc) else none
     | .ok .ret s'=>if s'.ds.isEmpty&&(jw E s'.h s'.ts fg.results.toList).isSome then some (s'.h,s'.rc) else none
     | _=>none
theorem si {φ:Ph} {ds:List Deferred} (h:X6 φ [] ds):ds=[]:=by cases ds with | nil=>rfl | cons _ _=>exact h.elim
def qE (c:Bool→Frame):RC→Frame
 | .done=>{c true with mode:=settle (c true).mode}
 | _=>{c false with mode:=settle (c false).mode}
theorem sj (hE:j5 E) {call:bj} (dp:hF E call) {fuel:Nat} {g:FuncId} {as_:List AV} {h h':aw} {rc VJ:RC} (hd:g_ E call fuel g as_ h rc=some (h',VJ)) {φ:Ph} {w:World} {vs:List Value}
 (ok:OK E φ h w) (hl:LR φ as_ vs) {c:Bool→Frame} {cs:List Frame} (fY:mV φ (bare g .deferred) (fun x=>c x::cs) rc):
 ∃φ' w',OK E φ' h' w'∧Fr φ h w φ' h' w'∧mV φ' (bare g .deferred) (fun x=>c x::cs) VJ∧(callFunc g vs.toArray).run E.P w= .ok (.enter g vs.toArray) w∧
  Steps E.P (lone (Frame.enter E.P g vs.toArray .deferred) (cur (fun x=>c x::cs) rc) w)
   (lone (qE c VJ) cs w'):=by
 unfold g_ at hd
 split at hd
 · simp at hd
 rename_i fg hf
 split at hd
 · simp at hd
 rename_i bg hb
 have key:∀(s':St) (e:h_),(e= .normal∨e= .ret)→mo E call fuel fg bg as_ h rc= .ok e s'→s'.ds.isEmpty=true→(jw E s'.h s'.ts fg.results.toList).isSome=true→s'.h=h'→s'.rc=VJ→
  ∃φ' w',OK E φ' h' w'∧Fr φ h w φ' h' w'∧mV φ' (bare g .deferred) (fun x=>c x::cs) VJ∧(callFunc g vs.toArray).run E.P w= .ok (.enter g vs.toArray) w∧
  Steps E.P (lone (Frame.enter E.P g vs.toArray .deferred) (cur (fun x=>c x::cs) rc) w)
   (lone (qE c VJ) cs w'):=by
  intro s' e he fQ Kw Dk hh hr
  subst hh;subst hr
  obtain ⟨φ',w',a',e',x1,x2,x3,x4,x5,x6⟩:=(sh hE dp hf hb fQ ok hl (kind:= .deferred) fY).is
  refine ⟨φ',w',x3,x4,x5,enters hE hf hb _ w,?_⟩
  obtain ⟨qx,agw⟩:=Option.isSome_iff_exists.1 Dk
  obtain ⟨v',_,fJ⟩:=sf x3 x2.ts agw
  have hdn:a'.defers=[]:=si (by have:=x2.ds;rw[List.isEmpty_iff.1 Kw] at this;exact this)
  have fin:∀todo,step E.P (lone {(bare g .deferred).atR a' todo with mode:= .returning} (cur (fun x=>c x::cs) s'.rc) w')=
   .next (lone (qE c s'.rc) cs w'):=fun todo=>by
   have zw:({(bare g .deferred).atR a' todo with mode:= .returning}:Frame).going E.P w' (.returned v'):=⟨rfl,hdn,fg,hf,fJ⟩
   have hk:({(bare g .deferred).atR a' todo with mode:= .returning}:Frame).kind= .deferred:=rfl
   cases ajG:s'.rc with
   | no=>exact step_going_returned (c:=c false) (cs:=cs) hk zw
   | gV v=>exact step_going_returned (c:=c false) (cs:=cs) hk zw
   | done=>exact step_going_returned (c:=c true) (cs:=cs) hk zw
   | rN l=>exact step_going_returned (c:=c false) (cs:=cs) hk zw
  rcases he with rfl | rfl
  · cases x1
    exact Steps.trans x6 (.head (stepR_end rfl) (.one (fin [])))
  · cases x1
    obtain ⟨todo,hs⟩:=x6
    exact Steps.trans hs (.head (stepR_ret rfl) (.one (fin _)))
 split at hd
 · rename_i s' fQ
   split at hd
   · rename_i hc
     simp at hd;obtain ⟨rfl,rfl⟩:=hd
     simp only[Bool.and_eq_true] at hc
     exact key s' .normal (.inl rfl) fQ hc.1 hc.2 rfl rfl
   · simp at hd
 · rename_i s' fQ
   split at hd
   · rename_i hc
     simp at hd;obtain ⟨rfl,rfl⟩:=hd
     simp only[Bool.and_eq_true] at hc
     exact key s' .ret (.inr rfl) fQ hc.1 hc.2 rfl rfl
   · simp at hd
 · simp at hd
theorem jA (hE:j5 E) {call:bj} (dp:hF E call) {fuel:Nat}:∀(ds:List pw) {p p':Option AV} {h h':aw} (_:cK (g_ E call fuel) ds p h=some (p',h')) {φ:Ph} {w:World} {fr:Frame} {cs:List Frame}
 (_:OK E φ h w) (_:X6 φ ds fr.defers) (_:(p=none∧fr.mode= .returning)∨∃v v',p=some v∧VR φ v v'∧fr.mode= .panicking [{v:=v',recovered:=false}]),
 ∃φ' w' m',OK E φ' h' w'∧Fr φ h w φ' h' w'∧((p'=none∧m'= .returning)∨∃v v',p'=some v∧VR φ' v v'∧m'= .panicking [{v:=v',recovered:=false}])∧
  Steps E.P (lone fr cs w) (lone {fr with defers:=[],mode:=m'} cs w')
 | [],p,p',h,h',hu,φ,w,fr,cs,ok,Kw,hp=>by
   simp [cK] at hu;obtain ⟨rfl,rfl⟩:=hu
   have:=si Kw
   refine ⟨φ,w,fr.mode,ok,Fr.refl _ _ _,?_,?_⟩
   · exact hp
   · rw[←this];exact Steps.refl _ _
 | .Db r::ds,p,p',h,h',hu,φ,w,fr,cs,ok,Kw,hp=>by
   cases Z6:fr.defers with
   | nil=>rw[Z6] at Kw;exact Kw.elim
   | cons d' yv=>
   rw[Z6] at Kw
   obtain ⟨⟨l,hl,VK⟩,QX⟩:=Kw
   have QY:fr.mode≠ .run:=by
    rcases hp with ⟨_,hm⟩ | ⟨v,v',_,_,hm⟩<;>rw[hm]<;>simp
   simp only[cK] at hu
   split at hu
   · rename_i hg
     obtain ⟨_,hb⟩:=ok.live _ _ _ hg hl
     obtain ⟨HW,f1⟩:=ok.shut hg rfl hl (.deferred none)
     have st1:=step_collected (P:=E.P) (cs:=cs) QY Z6 VK (run_takeDeferred hb)
     obtain ⟨φ2,w2,m2,Bm,f2,QZ,Kx⟩:=jA hE dp ds hu (fr:={fr with defers:=[]++yv}) (cs:=cs) HW (by simpa using QX) hp
     exact ⟨φ2,w2,m2,Bm,f1.trans f2,QZ,.head st1 Kx⟩
   · simp at hu
 | .call df aiy::ds,p,p',h,h',hu,φ,w,fr,cs,ok,Kw,hp=>by
   cases Z6:fr.defers with
   | nil=>rw[Z6] at Kw;exact Kw.elim
   | cons d' yv=>
   rw[Z6] at Kw
   obtain ⟨⟨cap,VK,A'⟩,QX⟩:=Kw
   have QY:fr.mode≠ .run:=by
    rcases hp with ⟨_,hm⟩ | ⟨v,v',_,_,hm⟩<;>rw[hm]<;>simp
   have hinv:∀(P7:(callFunc df (d'.args++cap).toList.toArray).run E.P w= .ok (.enter df (d'.args++cap).toList.toArray) w),(invoke d'.target d'.args).run E.P w= .ok (.enter df (d'.args++cap).toList.toArray) w:=fun P7=>by
    have e:(d'.args++cap).toList.toArray=d'.args++cap:=Array.toArray_toList ..
    rw[e] at P7 ⊢
    rw[VK];exact P7
   have st1:∀(P7:(callFunc df (d'.args++cap).toList.toArray).run E.P w= .ok (.enter df (d'.args++cap).toList.toArray) w),step E.P (lone fr cs w)= .next (lone (Frame.enter E.P df (d'.args++cap).toList.toArray .deferred) ({fr with defers:=yv}::cs) w):=fun P7=>step_defer QY Z6 VK (hinv P7)
   cases p with
   | none=>
     simp only[cK] at hu
     split at hu
     · rename_i h1 rc1 hcd
       have hm:fr.mode= .returning:=by
        rcases hp with ⟨_,hm⟩ | ⟨v,v',e,_,_⟩
        · exact hm
        · simp at e
       obtain ⟨φ1,w1,HW,f1,_,P7,ir⟩:=sj hE dp hcd ok A' (c:=fun _=>{fr with defers:=yv}) (cs:=cs) ⟨rfl,fun JW hk=>by simp [tryRecover,show JW.kind= .deferred from hk,hm]⟩
       have pS:qE (fun _=>{fr with defers:=yv}) rc1={fr with defers:=yv}:=by
        cases rc1<;>simp [qE,hm,settle]
       rw[pS] at ir
       obtain ⟨φ2,w2,m2,Bm,f2,QZ,Kx⟩:=jA hE dp ds hu (fr:={fr with defers:=yv}) (cs:=cs) HW (QX.mono f1.ext) (.inl ⟨rfl,hm⟩)
       exact ⟨φ2,w2,m2,Bm,f1.trans f2,QZ,.head (st1 P7) (Steps.trans ir Kx)⟩
     · simp at hu
   | some v=>
     obtain ⟨v',hv,hm⟩:∃v',VR φ v v'∧fr.mode= .panicking [{v:=v',recovered:=false}]:=by
      rcases hp with ⟨e,_⟩ | ⟨v1,v',e,hv,hm⟩
      · simp at e
      · simp at e;subst e;exact ⟨v',hv,hm⟩
     have fY:mV φ (bare df .deferred) (fun x=>(if x then {fr with defers:=yv,mode:= .panicking [{v:=v',recovered:=true}]} else {fr with defers:=yv})::cs) (.gV v):=
      ⟨rfl,⟨v',hv,fun JW hk=>by simp [tryRecover,show JW.kind= .deferred from hk,hm]⟩,fun JW hk=>by simp [tryRecover,show JW.kind= .deferred from hk]⟩
     simp only[cK] at hu
     split at hu
     · rename_i h1 v1 hcd
       obtain ⟨φ1,w1,HW,f1,_,P7,ir⟩:=sj hE dp hcd ok A' (c:=fun x=>if x then {fr with defers:=yv,mode:= .panicking [{v:=v',recovered:=true}]} else {fr with defers:=yv}) (cs:=cs) fY
       have pS:qE (fun x=>if x then {fr with defers:=yv,mode:= .panicking [{v:=v',recovered:=true}]} else {fr with defers:=yv}) (.gV v1)={fr with defers:=yv}:=by simp [qE,hm,settle]
       rw[pS] at ir
       simp only[Bool.false_eq_true,if_false,cur] at ir
       obtain ⟨φ2,w2,m2,Bm,f2,QZ,Kx⟩:=jA hE dp ds hu (fr:={fr with defers:=yv}) (cs:=cs) HW (QX.mono f1.ext) (.inr ⟨v,v',rfl,hv.mono f1.ext,hm⟩)
       exact ⟨φ2,w2,m2,Bm,f1.trans f2,QZ,.head (st1 P7) (Steps.trans ir Kx)⟩
     · rename_i h1 hcd
       obtain ⟨φ1,w1,HW,f1,_,P7,ir⟩:=sj hE dp hcd ok A' (c:=fun x=>if x then {fr with defers:=yv,mode:= .panicking [{v:=v',recovered:=true}]} else {fr with defers:=yv}) (cs:=cs) fY
       have pS:qE (fun x=>if x then {fr with defers:=yv,mode:= .panicking [{v:=v',recovered:=true}]} else {fr with defers:=yv}) .done={fr with defers:=yv,mode:= .returning}:=by simp [qE,settle]
       rw[pS] at ir
       simp only[Bool.false_eq_true,if_false,cur] at ir
       obtain ⟨φ2,w2,m2,Bm,f2,QZ,Kx⟩:=jA hE dp ds hu (fr:={fr with defers:=yv,mode:= .returning}) (cs:=cs) HW (QX.mono f1.ext) (.inl ⟨rfl,rfl⟩)
       exact ⟨φ2,w2,m2,Bm,f1.trans f2,QZ,.head (st1 P7) (Steps.trans ir Kx)⟩
     · simp at hu
theorem H2 (hE:j5 E) (fuel d:Nat) (ih:hF E (f' E d fuel)):(∀f args h v h',f' E (d+1) fuel (.fn f) args h= .ret v h'→kD E f args h v h')∧(∀f args h v h',f' E (d+1) fuel (.fn f) args h= .panic v h'→MC E f args h v h'):=by
 have key:∀(f:FuncId) (args:List AV) (h:aw) (out:iQ),f' E (d+1) fuel (.fn f) args h=out→(∀why q,out≠ .fail why q)→
  ∃fn c e s p,E.P.funcs[f]? =some fn∧fn.body=some c∧mo E (f' E d fuel) fuel fn c args h .no= .ok e s∧
   ((p=none∧(e= .normal∨e= .ret))∨∃v,p=some v∧e= .panic v)∧
   ((∃v h',out= .panic v h'∧cK (g_ E (f' E d fuel) fuel) s.ds p s.h=some (some v,h'))∨
    ∃vs h',out= .ret (fO vs) h'∧cK (g_ E (f' E d fuel) fuel) s.ds p s.h=some (none,h')∧jw E h' s.ts fn.results.toList=some vs):=by
  intro f args h out e eu
  simp only[f'] at e
  split at e
  · exact absurd e.symm (eu _ _)
  rename_i fn hf
  split at e
  · exact absurd e.symm (eu _ _)
  rename_i c hb
  have fin:∀(p:Option AV) (s:St),(match cK (g_ E (f' E d fuel) fuel) s.ds p s.h with
   | none=>iQ.fail "unwind" none
   | some (some v,h')=> .panic v h'
   | some (none,h')=>match jw E h' s.ts fn.results.toList with
     | some vs=> .ret (fO vs) h'
     | none=> .fail "results" none)=out→
   ((∃v h',out= .panic v h'∧cK (g_ E (f' E d fuel) fuel) s.ds p s.h=some (some v,h'))∨
    ∃vs h',out= .ret (fO vs) h'∧cK (g_ E (f' E d fuel) fuel) s.ds p s.h=some (none,h')∧jw E h' s.ts fn.results.toList=some vs):=by
   intro p s hm
   split at hm
   · exact absurd hm.symm (eu _ _)
   · rename_i v h' hu;exact .inl ⟨v,h',hm.symm,hu⟩
   · rename_i h' hu
     split at hm
     · rename_i vs hv;exact .inr ⟨vs,h',hm.symm,hu,hv⟩
     · exact absurd hm.symm (eu _ _)
  split at e
  · rename_i s fQ;exact ⟨fn,c,_,s,none,hf,hb,fQ,.inl ⟨rfl,.inl rfl⟩,fin none s e⟩
  · rename_i s fQ;exact ⟨fn,c,_,s,none,hf,hb,fQ,.inl ⟨rfl,.inr rfl⟩,fin none s e⟩
  · rename_i v s fQ;exact ⟨fn,c,_,s,some v,hf,hb,fQ,.inr ⟨v,rfl,rfl⟩,fin (some v) s e⟩
  · exact absurd e.symm (eu _ _)
  · exact absurd e.symm (eu _ _)
 have run:∀(f:FuncId) (fn:Func) (c:Code) (args:List AV) (h:aw) (e:h_) (s:St) (p p':Option AV) (h':aw),E.P.funcs[f]? =some fn→fn.body=some c→mo E (f' E d fuel) fuel fn c args h .no= .ok e s→
  ((p=none∧(e= .normal∨e= .ret))∨∃v,p=some v∧e= .panic v)→cK (g_ E (f' E d fuel) fuel) s.ds p s.h=some (p',h')→
  ∀(φ:Ph) (w:World) (vs:List Value),OK E φ h w→LR φ args vs→∀cs,∃φ' w' m' tmps todo,OK E φ' h' w'∧Fr φ h w φ' h' w'∧LR φ' s.ts tmps.toList∧
   ((p'=none∧m'= .returning)∨∃v v',p'=some v∧VR φ' v v'∧m'= .panicking [{v:=v',recovered:=false}])∧
   Steps E.P (lone (Frame.enter E.P f vs.toArray .normal) cs w) (lone {(bare f .normal).atR {tmps,defers:=[]} todo with mode:=m'} cs w'):=by
  intro f fn c args h e s p p' h' hf hb fQ hp hu φ w vs ok hl cs
  obtain ⟨φ1,w1,a1,e1,x1,x2,x3,x4,x5,x6⟩:=(sh hE ih hf hb fQ ok hl (kind:= .normal) (K:=fun _=>cs) ⟨rfl,fun fr hk=>by simp [tryRecover,show fr.kind= .normal from hk]⟩).is
  have H4:cur (fun _=>cs) s.rc=cs:=by cases s.rc<;>rfl
  have Q0:cur (fun _=>cs) RC.no=cs:=rfl
  rw[H4] at x6
  rw[Q0] at x6
  have hm:∃todo m,((p=none∧m= .returning)∨∃v v',p=some v∧VR φ1 v v'∧m= .panicking [{v:=v',recovered:=false}])∧
   Steps E.P (lone (Frame.enter E.P f vs.toArray .normal) cs w) (lone {(bare f .normal).atR a1 todo with mode:=m} cs w1):=by
   rcases hp with ⟨rfl,rfl | rfl⟩ | ⟨v,rfl,rfl⟩
   · cases x1;exact ⟨[],.returning,.inl ⟨rfl,rfl⟩,Steps.trans x6 (.one (stepR_end rfl))⟩
   · cases x1;obtain ⟨todo,hs⟩:=x6;exact ⟨_,.returning,.inl ⟨rfl,rfl⟩,Steps.trans hs (.one (stepR_ret rfl))⟩
   · cases x1 with
     | panic _ v' hv=>obtain ⟨todo,hs⟩:=x6;exact ⟨todo,_,.inr ⟨v,v',rfl,hv,rfl⟩,hs⟩
  obtain ⟨todo,m,hmp,rO⟩:=hm
  obtain ⟨φ2,w2,m2,Bm,f2,QZ,hs2⟩:=jA hE ih s.ds hu (fr:={(bare f .normal).atR a1 todo with mode:=m}) (cs:=cs) x3 x2.ds (by
   rcases hmp with ⟨e,em⟩ | ⟨v,v',e,hv,em⟩
   · exact .inl ⟨e,em⟩
   · exact .inr ⟨v,v',e,hv,em⟩)
  exact ⟨φ2,w2,m2,a1.tmps,todo,Bm,x4.trans f2,x2.ts.mono f2.ext,QZ,Steps.trans rO hs2⟩
 refine ⟨fun f args h v h' e=>?_,fun f args h v h' e=>?_⟩
 · obtain ⟨fn,c,e1,s,p,hf,hb,fQ,hp,pN⟩:=key f args h _ e (by simp)
   rcases pN with ⟨v1,h1,he,_⟩ | ⟨vs1,h1,he,hu,Dk⟩
   · simp at he
   · simp at he;obtain ⟨rfl,rfl⟩:=he
     intro φ w vs ok hl
     refine ⟨enters hE hf hb _ w,fun cs=>?_⟩
     obtain ⟨φ',w',m',tmps,todo,rz,fr,ht,hm,hs⟩:=run f fn c args h e1 s p none h' hf hb fQ hp hu φ w vs ok hl cs
     obtain ⟨v',hv,fJ⟩:=sf rz ht Dk
     rcases hm with ⟨_,rfl⟩ | ⟨v,v'',e,_⟩
     · exact ⟨φ',w',v',_,hv,rz,fr,hs,rfl,rfl,rfl,rfl,fn,hf,fJ⟩
     · simp at e
 · obtain ⟨fn,c,e1,s,p,hf,hb,fQ,hp,pN⟩:=key f args h _ e (by simp)
   rcases pN with ⟨v1,h1,he,hu⟩ | ⟨vs1,h1,he,_⟩
   · simp at he;obtain ⟨rfl,rfl⟩:=he
     intro φ w vs ok hl
     refine ⟨enters hE hf hb _ w,fun cs=>?_⟩
     obtain ⟨φ',w',m',tmps,todo,rz,fr,ht,hm,hs⟩:=run f fn c args h e1 s p (some v) h' hf hb fQ hp hu φ w vs ok hl cs
     rcases hm with ⟨e,_⟩ | ⟨v2,v',e,hv,rfl⟩
     · simp at e
     · simp at e;subst e
       exact ⟨φ',w',v',_,hv,rz,fr,hs,rfl,rfl,rfl,fn,hf⟩
   · simp at he
theorem vj {l:Nat} {jump:Option Code} {s:St} {v:AV} {h':aw} (he:An l jump s= .ret v h') {φ:Ph} {w:World} (ok:OK E φ s.h w) {ll:Loc} (hl:φ l=some ll):
 ∃w',v= .bool jump.isNone∧OK E φ h' w'∧Fr φ s.h w φ h' w'∧(Instr.endRound ll.dZ jump).run E.P w= .ok (.bool jump.isNone) w':=by
 unfold An at he
 split at he
 · rename_i st pd ts ps as_ bd dn hg
   simp only[iQ.ret.injEq] at he;obtain ⟨rfl,rfl⟩:=he
   obtain ⟨_,r,hr,yB⟩:=ok.live _ _ _ hg hl
   obtain ⟨HW,f1⟩:=ok.Z4 (o':= .loop (if jump.isNone then .ready else .done) jump ts ps as_ bd dn) hg rfl hl (O:= .loop {r with state:=if jump.isNone then .ready else .done,pending:=jump})
    ⟨by have:=ok.live _ _ _ hg hl;exact this.1,_,rfl,⟨rfl,rfl,yB.tmps,yB.params,yB.assign,yB.body,yB.defers,yB.fn⟩⟩
   exact ⟨_,rfl,HW,f1,run_endRound jump hr⟩
 · simp at he
theorem H5 {φ:Ph}:∀{ps:List Tmp} {args:List AV} {vs:List Value} (_:LR φ args vs) {ts:List AV} {tmps:Array Value} (_:LR φ ts tmps.toList),
 LR φ ((ps.zip args).foldl (fun ts x=>ts.set x.1 x.2) ts) (((ps.zip vs).foldl (fun (tmps:Array Value) (x:Tmp×Value)=>tmps.setIfInBounds x.1 x.2) tmps).toList)
 | [],_,_,_,_,_,ht=>by simpa using ht
 | p::ps,[],vs,hl,ts,tmps,ht=>by rw[hl.fW];simpa using ht
 | p::ps,x::xs,vs,hl,ts,tmps,ht=>by
   obtain ⟨y,ys,rfl,hy,ud⟩:=hl.cf
   simp only[List.zip_cons_cons,List.foldl_cons]
   exact H5 ud (by simpa using ht.set hy p)
theorem vk (hE:j5 E) {call:bj} (dp:hF E call) {fuel l:Nat} {args:List AV} {h:aw} {out:iQ} (ho:qt E call fuel l args h=out) (eu:∀why q,out≠ .fail why q)
 {φ:Ph} {w:World} {vs:List Value} (ok:OK E φ h w) {ll:Loc} (hφ:φ l=some ll) (hl:LR φ args vs):
 ∃f tmps assign body,(Instr.yield ll.dZ vs.toArray).run E.P w= .ok (.round ll.dZ f tmps assign body) w∧∀c cs,
  (∀v h',out= .ret v h'→∃φ' w' v',VR φ' v v'∧OK E φ' h' w'∧Fr φ h w φ' h' w'∧Steps E.P (lone (Frame.round ll.dZ f tmps assign body .normal) (c::cs) w) (lone (c.finish v') cs w'))∧
  (∀v h',out= .panic v h'→∃φ' w' v',VR φ' v v'∧OK E φ' h' w'∧Fr φ h w φ' h' w'∧Steps E.P (lone (Frame.round ll.dZ f tmps assign body .normal) (c::cs) w) (lone (c.raise [{v:=v',recovered:=false}]) cs w')):=by
 unfold qt at ho
 split at ho
 · rename_i st pd ts ps as_ bd dn hg
   split at ho
   · rename_i hlen
     split at ho
     · rename_i s1 hx1
       split at ho
       · rename_i pd2 U0 Qi PU U1 U2 hg1
         obtain ⟨ajH,r,hr,yB⟩:=ok.live _ _ _ hg hφ
         have E9:vs.toArray.size=r.params.size:=by
          have h1:=congrArg List.length yB.params
          have h2:=hl.1
          simp at h1 ⊢;omega
         refine ⟨r.fn,_,r.assign,r.body,run_yield hr E9,fun c cs=>?_⟩
         have acY:LR φ ((ps.zip args).foldl (fun ts x=>ts.set x.1 x.2) ts) ((r.params.zip vs.toArray).foldl (fun tmps (t,a)=>tmps.setIfInBounds t a) r.tmps).toList:=by
          have:=H5 (ps:=ps) hl yB.tmps
          rw[←Array.foldl_toList,Array.toList_zip,yB.params]
          exact this
         generalize htm:(r.params.zip vs.toArray).foldl (fun tmps (t,a)=>tmps.setIfInBounds t a) r.tmps=MI at acY
         let b:Frame:={fn:=r.fn,tmps:= #[],todo:=[],defers:=[],mode:= .run,kind:= .normal,roundOf:=some ll.dZ}
         have hb:b.roundOf=some ll.dZ:=rfl
         have hk:b.kind= .normal:=rfl
         have yw:Frame.round ll.dZ r.fn MI r.assign r.body .normal=b.atR {tmps:=MI,defers:=[]} [.code r.assign,.beginRound,.code r.body]:=rfl
         rw[yB.assign,yB.body] at yw ⊢
         rw[yw]
         have H4:∀rc,cur (fun _=>c::cs) rc=c::cs:=fun rc=>by cases rc<;>rfl
         obtain ⟨φ1,w1,a1,e1,x1,x2,x3,x4,x5,x6⟩:=(vh hE dp fuel as_ hx1 (a:={tmps:=MI,defers:=[]}) (b:=b) (k:=[.beginRound,.code bd]) (K:=fun _=>c::cs) ⟨acY,trivial⟩ ok ⟨ll,hφ,rfl⟩ yB.fn).1.is
         cases x1
         rw[H4,H4] at x6
         have hφ1:=x4.ext _ _ hφ
         obtain ⟨acZ,r1,hr1,H6⟩:=x3.live _ _ _ hg1 hφ1
         obtain ⟨Bm,f2⟩:=x3.Z4 (o':= .loop .busy pd2 U0 Qi PU U1 U2) hg1 rfl hφ1 (O:= .loop {r1 with state:= .busy})
          ⟨acZ,_,rfl,⟨rfl,H6.pending,H6.tmps,H6.params,H6.assign,H6.body,H6.defers,H6.fn⟩⟩
         have agx:=stepR_beginRound (P:=E.P) (b:=b) (a:=a1) (k:=[.code bd]) (cs:=c::cs) hb (run_beginRound hr1 H6.state)
         have ue:=Steps.trans x6 (.one agx)
         have body:∀(e:h_) (s2:St),exec E call fuel bd {s1 with h:=s1.h.put l (some (.loop .busy pd2 U0 Qi PU U1 U2))}= .ok e s2→
          ∃φ' w' a' e',ZT φ' e e'∧SR φ' s2.ts s2.ds a'∧OK E φ' s2.h w'∧Fr φ h w φ' s2.h w'∧φ' l=some ll∧HY E.P (lone (b.atR {tmps:=MI,defers:=[]} [.code as_,.beginRound,.code bd]) (c::cs) w) b [] (c::cs) e' a' w':=by
          intro e s2 VL
          obtain ⟨φ3,w3,a3,e3,y1,y2,y3,y4,y5,y6⟩:=(vh hE dp fuel bd VL (a:=a1) (b:=b) (k:=[]) (K:=fun _=>c::cs) x2 Bm x5 yB.fn).1.is
          rw[H4,H4] at y6
          exact ⟨φ3,w3,a3,e3,y1,y2,y3,(x4.trans f2).trans y4,y4.ext _ _ hφ1,.of_steps ue y6⟩
         split at ho
         · rename_i s2 VL
           obtain ⟨φ3,w3,a3,e3,y1,y2,y3,y4,P5,y6⟩:=body _ _ VL
           cases y1
           refine ⟨fun v h' e=>?_,fun v h' e=>?_⟩
           · obtain ⟨w4,rfl,z1,z2,z3⟩:=vj (ho.trans e) y3 P5
             exact ⟨φ3,w4,_,.bool _,z1,y4.trans z2,Steps.trans y6 (.one (stepR_round_end hb hk z3))⟩
           · rw[e] at ho;unfold An at ho;split at ho<;>simp at ho
         · rename_i s2 VL
           obtain ⟨φ3,w3,a3,e3,y1,y2,y3,y4,P5,y6⟩:=body _ _ VL
           cases y1
           refine ⟨fun v h' e=>?_,fun v h' e=>?_⟩
           · obtain ⟨w4,rfl,z1,z2,z3⟩:=vj (ho.trans e) y3 P5
             obtain ⟨todo,hs⟩:=y6
             exact ⟨φ3,w4,_,.bool _,z1,y4.trans z2,Steps.trans hs (.one (stepR_round_ret hb hk z3))⟩
           · rw[e] at ho;unfold An at ho;split at ho<;>simp at ho
         · rename_i id s2 VL
           obtain ⟨φ3,w3,a3,e3,y1,y2,y3,y4,P5,y6⟩:=body _ _ VL
           cases y1
           refine ⟨fun v h' e=>?_,fun v h' e=>?_⟩
           · obtain ⟨w4,rfl,z1,z2,z3⟩:=vj (ho.trans e) y3 P5
             obtain ⟨todo,ht,hs⟩:=y6
             exact ⟨φ3,w4,_,.bool _,z1,y4.trans z2,Steps.trans hs (.one (stepR_round_exit hb hk ht z3))⟩
           · rw[e] at ho;unfold An at ho;split at ho<;>simp at ho
         · rename_i v2 s2 VL
           obtain ⟨φ3,w3,a3,e3,y1,y2,y3,y4,P5,y6⟩:=body _ _ VL
           split at ho
           · rename_i Kw
             refine ⟨fun v h' e=>by rw[e] at ho;simp at ho,fun v h' e=>?_⟩
             rw[e] at ho;simp at ho;obtain ⟨rfl,rfl⟩:=ho
             cases y1 with
             | panic _ v' hv=>
               obtain ⟨todo,hs⟩:=y6
               have hdn:a3.defers=[]:=si (by have:=y2.ds;rw[List.isEmpty_iff.1 Kw] at this;exact this)
               obtain ⟨fn,C9⟩:=Option.isSome_iff_exists.1 yB.fn
               exact ⟨φ3,w3,v',hv,y3,y4,Steps.trans hs (.one (step_leave_panicked ⟨rfl,hdn,fn,C9⟩))⟩
           · exact absurd ho.symm (eu _ _)
         · exact absurd ho.symm (eu _ _)
       · exact absurd ho.symm (eu _ _)
     · exact absurd ho.symm (eu _ _)
     · exact absurd ho.symm (eu _ _)
   · exact absurd ho.symm (eu _ _)
 · exact absurd ho.symm (eu _ _)
theorem zB (hE:j5 E) (fuel:Nat):∀d,hF E (f' E d fuel)
 | 0=>⟨fun f args h v h' e=>by simp [f'] at e,fun f args h v h' e=>by simp [f'] at e⟩
 | d+1=>by
   have ih:=zB hE fuel d
   obtain ⟨k1,k2⟩:=H2 hE fuel d ih
   refine ⟨fun F args h v h' e=>?_,fun F args h v h' e=>?_⟩
   · cases F with
     | fn f=>exact (k1 f args h v h' e).any
     | uV l=>
       simp only[f'] at e
       intro φ w vs ok hf hl
       obtain ⟨ll,hφ⟩:=hf
       obtain ⟨f,tmps,assign,body,hy,fJ⟩:=vk hE ih e (by simp) ok hφ hl
       exact ⟨_,_,.uV l ll hφ vs f tmps assign body hy,fun c cs=>(fJ c cs).1 v h' rfl⟩
   · cases F with
     | fn f=>exact (k2 f args h v h' e).any
     | uV l=>
       simp only[f'] at e
       intro φ w vs ok hf hl
       obtain ⟨ll,hφ⟩:=hf
       obtain ⟨f,tmps,assign,body,hy,fJ⟩:=vk hE ih e (by simp) ok hφ hl
       exact ⟨_,_,.uV l ll hφ vs f tmps assign body hy,fun c cs=>(fJ c cs).2 v h' rfl⟩
end Go.Ab
end
section
namespace Go.Ab.Fa
structure Acc (T:Type) where
 f:T→AV
structure Upd (T:Type) where
 f:AV→T→T
structure RF where
 T:Type
 N:Nat
 get:Nat→Acc T
 set:Nat→Upd T
 z:T
 Q1:∀i,i<N→(get i).f z=AV.undef
 wB:∀i,i<N→∀v r,(get i).f ((set i).f v r)=v
 tL:∀i j,i<N→j<N→i≠j→∀v r,(get j).f ((set i).f v r)=(get j).f r
def VM (i:Nat):Acc (P8 (P8 AV)):=s8 (i/8) fun p=>s8 (i%8) fun q=>⟨fun r=>q (p r)⟩
noncomputable def Z7 (i:Nat):Upd (P8 (P8 AV)):=e8 (i/8) fun p=>e8 (i%8) fun q=>⟨fun v r=>p (q fun _=>v) r⟩
noncomputable def rf2:RF where
 T:=P8 (P8 AV)
 N:=64
 get:=VM
 set:=Z7
 z:=P8.all (P8.all AV.undef)
 Q1 i h:=by simp only[VM,ux,AK]
 wB i h v r:=by simp only[VM,Z7,ux,zp,dg]
 tL i j hi hj h v r:=by
  simp only[VM,Z7,ux,zp]
  by_cases h1:i/8=j/8
  · rw[h1,dg,dR (by omega) (by omega) (by omega)]
  · rw[dR (by omega) (by omega) h1]
def VN (i:Nat):Acc (P8 (P8 (P8 AV))):=s8 (i/64) fun o=>s8 (i/8%8) fun p=>s8 (i%8) fun q=>⟨fun r=>q (p (o r))⟩
noncomputable def Z8 (i:Nat):Upd (P8 (P8 (P8 AV))):=e8 (i/64) fun o=>e8 (i/8%8) fun p=>e8 (i%8) fun q=>⟨fun v r=>o (p (q fun _=>v)) r⟩
noncomputable def rf3:RF where
 T:=P8 (P8 (P8 AV))
 N:=512
 get:=VN
 set:=Z8
 z:=P8.all (P8.all (P8.all AV.undef))
 Q1 i h:=by simp only[VN,ux,AK]
 wB i h v r:=by simp only[VN,Z8,ux,zp,dg]
 tL i j hi hj h v r:=by
  simp only[VN,Z8,ux,zp]
  by_cases h1:i/64=j/64
  · rw[h1,dg]
    by_cases h2:i/8%8=j/8%8
    · rw[h2,dg,dR (by omega) (by omega) (by omega)]
    · rw[dR (by omega) (by omega) h2]
  · rw[dR (by omega) (by omega) h1]
section
variable (F:RF) (n:Nat)
def eW (r:F.T):List AV:=(List.range n).map fun i=>(F.get i).f r
theorem iv (r:F.T):(eW F n r).length=n:=by simp [eW]
theorem tM (r:F.T) {i:Nat} (h:i<n):(eW F n r)[i]? =some ((F.get i).f r):=by simp [eW,h]
theorem H7 (r:F.T) (i:Nat):(eW F n r).getD i AV.undef=if i<n then (F.get i).f r else AV.undef:=by
 rw[List.getD_eq_getElem?_getD]
 split
 · rename_i h;rw[tM F n r h];rfl
 · rw[List.getElem?_eq_none (by rw[iv];omega)];rfl
theorem VO (hn:n≤F.N) (r:F.T) {i:Nat} (h:i<n) (v:AV):(eW F n r).set i v=eW F n ((F.set i).f v r):=by
 apply List.ext_getElem?
 intro j
 rw[List.getElem?_set]
 by_cases hj:j<n
 · rw[tM F n _ hj,tM F n _ hj,iv]
   by_cases e:i=j
   · subst e;simp [F.wB i (by omega),h]
   · rw[if_neg e,F.tL i j (by omega) (by omega) e]
 · rw[List.getElem?_eq_none (l:=eW F n r) (by rw[iv];omega),List.getElem?_eq_none (l:=eW F n _) (by rw[iv];omega),iv]
   rw[if_neg (by omega)]
noncomputable def P_:List AV→F.T→Nat→F.T:=fun l=>List.rec (motive:=fun _=>F.T→Nat→F.T) (fun r _=>r) (fun v _ ih r i=>ih ((F.set i).f v r) (Nat.add i 1)) l
theorem VP (r:F.T) (i:Nat):P_ F [] r i=r:=rfl
theorem Q2 (v:AV) (l:List AV) (r:F.T) (i:Nat):P_ F (v::l) r i=P_ F l ((F.set i).f v r) (i+1):=rfl
theorem MJ (hn:n≤F.N):∀(l:List AV) (r:F.T) (i:Nat),i+l.length≤n→∀j,j<n→(F.get j).f (P_ F l r i)=if i≤j∧j<i+l.length then l.getD (j - i) AV.undef else (F.get j).f r
 | [],r,i,_,j,hj=>by rw[VP,if_neg (by rw[List.length_nil];omega)]
 | v::l,r,i,h,j,hj=>by
   simp only[List.length_cons] at h
   rw[Q2,MJ hn l _ (i+1) (by omega) j hj]
   simp only[List.length_cons]
   by_cases h1:i+1≤j∧j<i+1+l.length
   · rw[if_pos h1,if_pos (by omega)]
     obtain ⟨m,hm⟩:∃m,j - i=m+1:=⟨j - i - 1,by omega⟩
     rw[hm,show j -(i+1)=m by omega,List.getD_cons_succ]
   · rw[if_neg h1]
     by_cases h2:i=j
     · subst h2;rw[F.wB i (by omega),if_pos (by omega)];simp
     · rw[F.tL i j (by omega) (by omega) h2,if_neg (by omega)]
theorem MK (hn:n≤F.N) (l:List AV) (h:l.length≤n):eW F n (P_ F l F.z 0)=l++List.replicate (n - l.length) AV.undef:=by
 apply List.ext_getElem?
 intro j
 by_cases hj:j<n
 · rw[tM F n _ hj,MJ F n hn l F.z 0 (by omega) j hj]
   by_cases h1:j<l.length
   · rw[if_pos (by omega),List.getElem?_append_left h1,Nat.sub_zero,List.getD_eq_getElem?_getD,List.getElem?_eq_getElem h1];rfl
   · rw[if_neg (by omega),List.getElem?_append_right (by omega),F.Q1 j (by omega),List.getElem?_replicate,if_pos (by omega)]
 · rw[List.getElem?_eq_none (by rw[iv];omega),List.getElem?_eq_none (by simp;omega)]
end
end Go.Ab.Fa
end
section
namespace Go.Ab.Fa
section
variable {R:Type}
noncomputable def ja (f:Bool→R) (d:R) (v:AV):R:=
 AV.rec (motive_1:=fun _=>R) (motive_2:=fun _=>Unit) (fun b=>f b) (fun _ _=>d) (fun _=>d) d (fun _ _=>d) d (fun _ _ _ _ _=>d) d (fun _=>d) (fun _ _ _ _ _=>d) (fun _=>d) d (fun _ _ _=>d) d (fun _ _=>d) (fun _ _=>d) d d () (fun _ _ _ _=>()) v
noncomputable def oa (f:IntKind→Int→R) (d:R) (v:AV):R:=
 AV.rec (motive_1:=fun _=>R) (motive_2:=fun _=>Unit) (fun _=>d) (fun k n=>f k n) (fun _=>d) d (fun _ _=>d) d (fun _ _ _ _ _=>d) d (fun _=>d) (fun _ _ _ _ _=>d) (fun _=>d) d (fun _ _ _=>d) d (fun _ _=>d) (fun _ _=>d) d d () (fun _ _ _ _=>()) v
noncomputable def qF (f:List UInt8→R) (d:R) (v:AV):R:=
 AV.rec (motive_1:=fun _=>R) (motive_2:=fun _=>Unit) (fun _=>d) (fun _ _=>d) (fun s=>f s) d (fun _ _=>d) d (fun _ _ _ _ _=>d) d (fun _=>d) (fun _ _ _ _ _=>d) (fun _=>d) d (fun _ _ _=>d) d (fun _ _=>d) (fun _ _=>d) d d () (fun _ _ _ _=>()) v
noncomputable def yC (f:Nat→Nat→R) (d:R) (v:AV):R:=
 AV.rec (motive_1:=fun _=>R) (motive_2:=fun _=>Unit) (fun _=>d) (fun _ _=>d) (fun _=>d) d (fun i o=>f i o) d (fun _ _ _ _ _=>d) d (fun _=>d) (fun _ _ _ _ _=>d) (fun _=>d) d (fun _ _ _=>d) d (fun _ _=>d) (fun _ _=>d) d d () (fun _ _ _ _=>()) v
noncomputable def jb (e:R) (f:Nat→Nat→Nat→Nat→Bool→R) (d:R) (v:AV):R:=
 AV.rec (motive_1:=fun _=>R) (motive_2:=fun _=>Unit) (fun _=>d) (fun _ _=>d) (fun _=>d) d (fun _ _=>d) e (fun i o l c b=>f i o l c b) d (fun _=>d) (fun _ _ _ _ _=>d) (fun _=>d) d (fun _ _ _=>d) d (fun _ _=>d) (fun _ _=>d) d d () (fun _ _ _ _=>()) v
noncomputable def vZ (z d:R) (v:AV):R:=
 AV.rec (motive_1:=fun _=>R) (motive_2:=fun _=>Unit) (fun _=>d) (fun _ _=>d) (fun _=>d) d (fun _ _=>d) d (fun _ _ _ _ _=>d) d (fun _=>d) (fun _ _ _ _ _=>d) (fun _=>d) d (fun _ _ _=>d) d (fun _ _=>d) (fun _ _=>d) z d () (fun _ _ _ _=>()) v
noncomputable def ML (f:FuncId→List AV→List AV→R) (y:Nat→R) (d:R) (v:AV):R:=
 AV.rec (motive_1:=fun _=>R) (motive_2:=fun _=>Unit) (fun _=>d) (fun _ _=>d) (fun _=>d) d (fun _ _=>d) d (fun _ _ _ _ _=>d) d (fun _=>d) (fun g a b _ _=>f g a b) (fun l=>y l) d (fun _ _ _=>d) d (fun _ _=>d) (fun _ _=>d) d d () (fun _ _ _ _=>()) v
noncomputable def yD (f:List AV→R) (t:List AV→R) (d:R) (v:AV):R:=
 AV.rec (motive_1:=fun _=>R) (motive_2:=fun _=>Unit) (fun _=>d) (fun _ _=>d) (fun _=>d) d (fun _ _=>d) d (fun _ _ _ _ _=>d) d (fun _=>d) (fun _ _ _ _ _=>d) (fun _=>d) d (fun _ _ _=>d) d (fun cs _=>f cs) (fun cs _=>t cs) d d () (fun _ _ _ _=>()) v
noncomputable def qG (f:TypeId→AV→R) (d:R) (v:AV):R:=
 AV.rec (motive_1:=fun _=>R) (motive_2:=fun _=>Unit) (fun _=>d) (fun _ _=>d) (fun _=>d) d (fun _ _=>d) d (fun _ _ _ _ _=>d) d (fun _=>d) (fun _ _ _ _ _=>d) (fun _=>d) d (fun t v _=>f t v) d (fun _ _=>d) (fun _ _=>d) d d () (fun _ _ _ _=>()) v
noncomputable def FP (v:AV):Bool:=
 AV.rec (motive_1:=fun _=>Bool) (motive_2:=fun _=>Unit) (fun _=>false) (fun _ _=>false) (fun _=>false) false (fun _ _=>true) false (fun _ _ _ _ _=>true) false (fun _=>true) (fun _ _ _ _ _=>true) (fun _=>false) false (fun _ _ _=>false) false (fun _ _=>false) (fun _ _=>false) false false () (fun _ _ _ _=>()) v
noncomputable def ob {α:Type} (d:R) (f:α→R) (o:Option α):R:=Option.rec (motive:=fun _=>R) d f o
noncomputable def bc (b:Bool) (x y:R):R:=Bool.rec (motive:=fun _=>R) y x b
noncomputable def yE (f:List AV→TypeId→Bool→R) (d:R) (o:aR):R:=
 aR.rec (motive:=fun _=>R) (fun cs e ro=>f cs e ro) (fun _ _=>d) (fun _ _=>d) (fun _ _ _ _=>d) (fun _ _ _ _ _ _ _=>d) d o
noncomputable def ku (f:Nat→R) (d:R) (n:Int):R:=Int.rec (motive:=fun _=>R) f (fun _=>d) n
noncomputable def Z9 (a b c d e f g h:R) (k:IntKind):R:=IntKind.rec (motive:=fun _=>R) a b c d e f g h k
end
noncomputable def kc (k:IntKind):Nat:=Z9 0 1 2 3 4 5 6 7 k
noncomputable def Q3 (k j:IntKind):Bool:=Nat.beq (kc k) (kc j)
noncomputable def uf (k:IntKind):Nat:=Z9 128 32768 2147483648 9223372036854775808 256 65536 4294967296 18446744073709551616 k
noncomputable def Q4 (k:IntKind):Nat:=Z9 8 16 32 64 8 16 32 64 k
noncomputable def Ye (k:IntKind):Bool:=Z9 true true true true false false false false k
noncomputable def uC (k:IntKind) (n:Int):Int:=
 Int.rec (motive:=fun _=>Int) (fun m=>bc (Nat.ble (uf k) m) (bc (Ye k) (k.wrap (Int.ofNat m)) (Int.ofNat (Nat.mod m (uf k)))) (Int.ofNat m))
  (fun m=>bc (Ye k) (bc (Nat.ble (uf k) m) (k.wrap (Int.negSucc m)) (Int.negSucc m)) (k.wrap (Int.negSucc m))) n
noncomputable def Q5 (a b:Int):Int:=ku (fun x=>ku (fun y=>Int.ofNat (Nat.add x y)) (Int.add a b) b) (Int.add a b) a
noncomputable def wC (a b:Int):Int:=ku (fun x=>ku (fun y=>bc (Nat.ble y x) (Int.ofNat (Nat.sub x y)) (Int.negSucc (Nat.sub (Nat.sub y x) 1))) (Int.sub a b) b) (Int.sub a b) a
noncomputable def Q6 (a b:Int):Int:=ku (fun x=>ku (fun y=>Int.ofNat (Nat.mul x y)) (Int.mul a b) b) (Int.mul a b) a
noncomputable def Yf (a b:Int):Bool:=
 Int.rec (motive:=fun _=>Bool) (fun x=>Int.rec (motive:=fun _=>Bool) (fun y=>Nat.beq x y) (fun _=>false) b) (fun x=>Int.rec (motive:=fun _=>Bool) (fun _=>false) (fun y=>Nat.beq x y) b) a
noncomputable def VQ (a b:Int):Bool:=
 Int.rec (motive:=fun _=>Bool) (fun x=>Int.rec (motive:=fun _=>Bool) (fun y=>Nat.ble (Nat.add x 1) y) (fun _=>false) b) (fun x=>Int.rec (motive:=fun _=>Bool) (fun _=>true) (fun y=>Nat.ble (Nat.add y 1) x) b) a
noncomputable def vl (b:Bool):Bool:=bc b false true
noncomputable def VS (op:BinOp):IntKind→Int→Int→Option AV:=match op with
 | .add=>fun k a b=>some (.int k (uC k (Q5 a b)))
 | .sub=>fun k a b=>some (.int k (uC k (wC a b)))
 | .mul=>fun k a b=>some (.int k (uC k (Q6 a b)))
 | .eql=>fun _ a b=>some (.bool (Yf a b))
 | .neq=>fun _ a b=>some (.bool (vl (Yf a b)))
 | .lss=>fun _ a b=>some (.bool (VQ a b))
 | .leq=>fun _ a b=>some (.bool (vl (VQ b a)))
 | .gtr=>fun _ a b=>some (.bool (VQ b a))
 | .geq=>fun _ a b=>some (.bool (vl (VQ a b)))
 | .quo=>fun k a b=>ku (fun x=>ku (fun y=>bc (Nat.beq y 0) none (some (.int k (uC k (Int.ofNat (Nat.div x y)))))) (cZ .quo k a b) b) (cZ .quo k a b) a
 | .rem=>fun k a b=>ku (fun x=>ku (fun y=>bc (Nat.beq y 0) none (some (.int k (Int.ofNat (Nat.mod x y))))) (cZ .rem k a b) b) (cZ .rem k a b) a
 | .and=>fun k a b=>ku (fun x=>ku (fun y=>bc (Nat.ble (uf k) x) (cZ .and k a b) (bc (Nat.ble (uf k) y) (cZ .and k a b) (some (.int k (Int.ofNat (Nat.land x y)))))) (cZ .and k a b) b) (cZ .and k a b) a
 | .or=>fun k a b=>ku (fun x=>ku (fun y=>bc (Nat.ble (uf k) x) (cZ .or k a b) (bc (Nat.ble (uf k) y) (cZ .or k a b) (some (.int k (Int.ofNat (Nat.lor x y)))))) (cZ .or k a b) b) (cZ .or k a b) a
 | op=>fun k a b=>cZ op k a b
noncomputable def Q7 (k:IntKind) (y:Nat):Nat:=bc (Nat.ble (Q4 k) y) (Q4 k) y
noncomputable def ac0 (k:IntKind) (a b:Int):Option AV:=ku (fun y=>some (.int k (uC k (Q6 a (Int.ofNat (Nat.pow 2 (Q7 k y))))))) none b
noncomputable def ac1 (k:IntKind) (a b:Int):Option AV:=ku (fun y=>some (.int k (ku (fun x=>Int.ofNat (Nat.div x (Nat.pow 2 (Q7 k y)))) (a.fdiv (2^(min y k.bits))) a))) none b
section
variable {α:Type}
noncomputable def iE (l:List α):Nat:=List.rec (motive:=fun _=>Nat) 0 (fun _ _ ih=>Nat.add ih 1) l
noncomputable def iG (l:List α):Nat→Option α:=List.rec (motive:=fun _=>Nat→Option α) (fun _=>none) (fun v _ ih o=>bc (Nat.beq o 0) (some v) (ih (Nat.sub o 1))) l
noncomputable def sm (l:List α):Nat→List α:=List.rec (motive:=fun _=>Nat→List α) (fun _=> []) (fun v tl ih o=>bc (Nat.beq o 0) (v::tl) (ih (Nat.sub o 1))) l
noncomputable def so (l:List α):Nat→List α:=List.rec (motive:=fun _=>Nat→List α) (fun _=> []) (fun v _ ih o=>bc (Nat.beq o 0) [] (v::ih (Nat.sub o 1))) l
noncomputable def kN (l m:List α):List α:=List.rec (motive:=fun _=>List α) m (fun v _ ih=>v::ih) l
noncomputable def yG (f:α→Bool) (l:List α):Bool:=List.rec (motive:=fun _=>Bool) true (fun v _ ih=>bc (f v) ih false) l
noncomputable def H8 (vs:List α):List α→List α:=
 List.rec (motive:=fun _=>List α→List α) (fun cs=>cs) (fun v _ ih cs=>List.rec (motive:=fun _=>List α) [] (fun _ tl _=>v::ih tl) cs) vs
noncomputable def H9 (vs cs:List α):Nat→List α:=
 List.rec (motive:=fun _=>Nat→List α) (fun _=> []) (fun c tl ih o=>bc (Nat.beq o 0) (H8 vs (c::tl)) (c::ih (Nat.sub o 1))) cs
noncomputable def leq (f:α→α→Bool) (l:List α):List α→Bool:=
 List.rec (motive:=fun _=>List α→Bool) (fun m=>List.rec (motive:=fun _=>Bool) true (fun _ _ _=>false) m)
  (fun x _ ih m=>List.rec (motive:=fun _=>Bool) false (fun y tl _=>bc (f x y) (ih tl) false) m) l
end
noncomputable def Bq (a b:UInt8):Bool:=Nat.beq a.toBitVec.toFin.val b.toBitVec.toFin.val
noncomputable def VT (v:AV):Bool:=yD (fun _=>false) (fun _=>false) true v
noncomputable def kS (v:AV):List AV:=yD (fun cs=>cs) (fun _=> [v]) [v] v
end Go.Ab.Fa
end
section
namespace Go.Ab.Fa
section
variable {α β:Type}
noncomputable def Av (l:List Nat) (x:Nat):Bool:=List.rec (motive:=fun _=>Bool) false (fun y _ ih=>bc (Nat.beq x y) true ih) l
noncomputable def Z_ (f:α→Bool) (l:List α):Bool:=List.rec (motive:=fun _=>Bool) false (fun v _ ih=>bc (f v) true ih) l
noncomputable def allI (f:α→Nat→Bool) (l:List α) (i:Nat):Bool:=List.rec (motive:=fun _=>Nat→Bool) (fun _=>true) (fun v _ ih i=>bc (f v i) (canon (Nat.add i 1) ih) false) l i
noncomputable def H_ (f:α→Nat→Bool) (l:List α) (i:Nat):List Nat:=List.rec (motive:=fun _=>Nat→List Nat) (fun _=> []) (fun v _ ih i=>bc (f v i) (i::canon (Nat.add i 1) ih) (canon (Nat.add i 1) ih)) l i
noncomputable def FQ (f:α→Bool) (l:List α):Nat:=List.rec (motive:=fun _=>Nat) 0 (fun v _ ih=>bc (f v) (Nat.add ih 1) ih) l
noncomputable def Ky (f:α→Bool) (l:List α):Nat:=List.rec (motive:=fun _=>Nat) 0 (fun v _ ih=>bc (f v) (Nat.add ih 1) 0) l
noncomputable def Br (l:List α) (i:Nat) (d:α):α:=ob d (fun x=>x) (iG l i)
noncomputable def pA (l:List α):(List α→β)→β:=List.rec (motive:=fun _=>(List α→β)→β) (fun k=>k []) (fun x _ ih k=>ih fun tl=>k (x::tl)) l
theorem yH (l:List α) (k:List α→β):pA l k=k l:=by
 induction l generalizing k with
 | nil=>rfl
 | cons y tl ih=>show pA tl (fun tl=>k (y::tl))=_;rw[ih]
noncomputable def Kz (l:List α) (k:List α→β):β:=List.rec (motive:=fun _=>β) (k []) (fun x tl _=>k (x::tl)) l
theorem Ov (l:List α) (k:List α→β):Kz l k=k l:=by cases l<;>rfl
noncomputable def FR (f:List β→α→List β) (l:List α) (b:List β):List β:=List.rec (motive:=fun _=>List β→List β) (fun b=>b) (fun v _ ih b=>Kz (f b v) ih) l b
theorem D0 (f:List β→α→List β) (l:List α) (b:List β):FR f l b=l.foldl f b:=by
 induction l generalizing b with
 | nil=>rfl
 | cons y tl ih=>show Kz (f b y) (FR f tl)=_;rw[Ov,ih];rfl
theorem ss (b:Bool) (x y:α):bc b x y=bif b then x else y:=by cases b<;>rfl
theorem Aw (x y:Nat):(x==y)=Nat.beq x y:=by
 cases h:Nat.beq x y
 · rw[beq_eq_false_iff_ne];intro e;subst e;rw[Nat.beq_refl] at h;exact absurd h (by simp)
 · rw[Nat.eq_of_beq_eq_true h];simp
theorem tN (l:List Nat) (x:Nat):Av l x=l.contains x:=by
 induction l with
 | nil=>rfl
 | cons y tl ih=>
   show bc (Nat.beq x y) true (Av tl x)=_
   rw[ih,ss,List.contains_cons,Aw]
   cases Nat.beq x y<;>rfl
theorem VU (f:α→Bool) (l:List α):Z_ f l=l.any f:=by
 induction l with
 | nil=>rfl
 | cons y tl ih=>show bc (f y) true (Z_ f tl)=_;rw[ih,ss,List.any_cons];cases f y<;>rfl
theorem qH (f:α→Bool) (l:List α):yG f l=l.all f:=by
 induction l with
 | nil=>rfl
 | cons y tl ih=>show bc (f y) (yG f tl) false=_;rw[ih,ss,List.all_cons];cases f y<;>rfl
theorem FT (f:α→Nat→Bool) (l:List α) (i:Nat):allI f l i=(l.zipIdx i).all fun p=>f p.1 p.2:=by
 induction l generalizing i with
 | nil=>rfl
 | cons y tl ih=>show bc (f y i) (canon (i+1) (allI f tl)) false=_;rw[kO,ih,ss,List.zipIdx_cons,List.all_cons];cases f y i<;>rfl
theorem H' (f:α→Nat→Bool) (l:List α) (i:Nat):H_ f l i=((l.zipIdx i).filter fun p=>f p.1 p.2).map (·.2):=by
 induction l generalizing i with
 | nil=>rfl
 | cons y tl ih=>
   show bc (f y i) (i::canon (i+1) (H_ f tl)) (canon (i+1) (H_ f tl))=_
   rw[kO,ih,ss,List.zipIdx_cons,List.filter_cons];cases f y i<;>simp
theorem Ow (f:α→Bool) (l:List α):FQ f l=(l.filter f).length:=by
 induction l with
 | nil=>rfl
 | cons y tl ih=>show bc (f y) (FQ f tl+1) (FQ f tl)=_;rw[ih,ss,List.filter_cons];cases f y<;>simp
theorem Ox (f:α→Bool) (l:List α):Ky f l=(l.takeWhile f).length:=by
 induction l with
 | nil=>rfl
 | cons y tl ih=>show bc (f y) (Ky f tl+1) 0=_;rw[ih,ss,List.takeWhile_cons];cases f y<;>simp
theorem gJ (l:List α) (i:Nat):iG l i=l[i]? :=by
 induction l generalizing i with
 | nil=>rfl
 | cons y tl ih=>
   show bc (Nat.beq i 0) (some y) (iG tl (i - 1))=_
   rw[ih,ss]
   cases i with
   | zero=>rfl
   | succ i=>rw[show Nat.beq (i+1) 0=false from rfl];simp
theorem wD (l:List α) (i:Nat) (d:α):Br l i d=l.getD i d:=by
 unfold Br;rw[gJ,List.getD_eq_getElem?_getD];cases l[i]? <;>rfl
theorem fD (l:List α):iE l=l.length:=by
 induction l with
 | nil=>rfl
 | cons y tl ih=>show iE tl+1=_;rw[ih];rfl
theorem nr (l m:List α):kN l m=l++m:=by
 induction l with
 | nil=>rfl
 | cons y tl ih=>show y::kN tl m=_;rw[ih];rfl
end
noncomputable def zC (p:Program) (t:TypeId):Option TypeInfo:=ob (p.info? t) (fun i=>some i) (iG p.types.toList t)
noncomputable def Yg (i:TypeInfo) (p:Program):Option TypeDesc:=TypeDesc.rec (motive:=fun _=>Option TypeDesc) (some i.desc) (some i.desc) (fun _=>some i.desc) (fun _=>some i.desc) (fun _=>some i.desc) (some i.desc) (some i.desc)
 (fun _=>some i.desc) (fun _=>some i.desc) (fun _ _=>some i.desc) (fun _ _=>some i.desc) (fun _ _=>some i.desc) (fun _=>some i.desc) (fun _ _ _=>some i.desc) (fun _=>some i.desc) (fun _=>some i.desc)
 (fun _ u=>ob none (fun j=>some j.desc) (zC p u)) i.desc
noncomputable def jB (p:Program) (t:TypeId):Option TypeDesc:=ob none (fun i=>Yg i p) (zC p t)
theorem su (p:Program) (t:TypeId):zC p t=p.info? t:=by
 unfold zC;rw[gJ,Array.getElem?_toList]
 cases h:p.types[t]? with
 | none=>rfl
 | some i=>
   show some i=p.info? t
   unfold Tables.info?
   obtain ⟨j0,_⟩:=Array.getElem?_eq_some_iff.mp h
   rw[if_pos j0,h]
theorem iw (p:Program) (t:TypeId):jB p t=p.underlying t:=by
 unfold jB Program.underlying
 rw[su]
 cases p.info? t with
 | none=>rfl
 | some i=>
   show Yg i p=_
   obtain ⟨d,_⟩:=i
   cases d with
   | named a u=>show ob none (fun j=>some j.desc) (zC p u)=Option.map (fun x=>x.desc) (p.info? u);rw[su];cases p.info? u<;>rfl
   | _=>rfl
noncomputable def Z' (p:Program) (f:FuncId):Option Func:=iG p.funcs.toList f
theorem VW (p:Program) (f:FuncId):Z' p f=p.funcs[f]? :=by
 unfold Z';rw[gJ];exact Array.getElem?_toList
variable (E:Env)
noncomputable def pV (op:Op):Bool:=match op with
 | .store .. | .mapUpdate .. | .insert .. | .mapEntry .. | .entryStore .. | .next .. | .panic _ | .defer _=>true
 | .convert _ dst _=>match jB E.P dst with
   | some (.slice _)=>true
   | _=>false
 | .call c=>match c.callee with
   | .builtin .len | .builtin .cap | .builtin .max | .builtin .min=>false
   | .builtin _=>true
   | .value (.func f)=>match E.lX f with
     | none=>true
     | some _=>false
   | _=>true
 | _=>false
theorem sv (op:Op):pV E op=fj E op:=by
 unfold pV fj
 cases op<;>try rfl
 · simp only[iw]
   rename_i dst _
   generalize E.P.underlying dst=u
   cases u with
   | none=>rfl
   | some d=>cases d<;>rfl
 · rename_i c
   rcases c with ⟨dh,a,t⟩
   cases dh with
   | value x=>
     cases x with
     | func f=>simp only;cases E.lX f<;>rfl
     | _=>rfl
   | builtin b=>cases b<;>rfl
   | _=>rfl
noncomputable def Yh (g:Ground):Bool:=Ground.rec (motive:=fun _=>Bool) true true true true (fun _=>false) (fun _=>false) g
noncomputable def vm (o:Oper):List Nat:=List.rec (motive:=fun _=>List Nat) [] (fun e _ ih=>bc (Yh e.ground) (e.on::ih) ih) o.after.toList
theorem D1 (o:Oper):vm o=kl o:=by
 unfold vm kl
 induction o.after.toList with
 | nil=>rfl
 | cons e tl ih=>
   show bc (Yh e.ground) (e.on::_) _=_
   rw[ih,List.filter_cons]
   obtain ⟨on,g⟩:=e
   cases g<;>rfl
noncomputable def VX (l:List Nat) (x:Nat):List Nat:=bc (Av l x) l (x::l)
noncomputable def MN (acc:List (List Nat)) (es:List Nat):List Nat:=FR (fun l e=>FR VX (Br acc e []) (VX l e)) es []
noncomputable def Q8 (l:List Oper):List (List Nat)→List (List Nat):=List.rec (motive:=fun _=>List (List Nat)→List (List Nat)) (fun acc=>acc) (fun o _ ih acc=>pA (MN acc (vm o)) fun a=>pA (kN acc [a]) ih) l
theorem MO (l:List Nat) (x:Nat):VX l x=if l.contains x then l else x::l:=by
 unfold VX;rw[tN,ss];cases l.contains x<;>rfl
theorem Q9 (acc:List (List Nat)) (o:Oper):MN acc (vm o)=(kl o).foldl (fun l e=>(acc.getD e []).foldl (fun l x=>if l.contains x then l else x::l) (if l.contains e then l else e::l)) []:=by
 unfold MN
 rw[D0,D1]
 congr 1
 funext l e
 rw[D0,wD,MO]
 congr 1
 funext l x
 exact MO l x
theorem Ia:∀(l:List Oper) (acc:List (List Nat)),Q8 l acc=Hp l acc
 | [],_=>rfl
 | o::rest,acc=>by
   show pA (MN acc (vm o)) (fun a=>pA (kN acc [a]) (Q8 rest))=_
   rw[yH,yH,Ia rest,nr,Q9];rfl
noncomputable def oc (an:List (List Nat)) (i j:Nat):Bool:=Av (Br an i []) j
theorem pW (an:List (List Nat)) (i j:Nat):oc an i j=dD an i j:=by
 unfold oc dD Hq;rw[tN,wD]
noncomputable def Bs (ops:List Oper) (an:List (List Nat)):Bool:=
 allI (fun o i=>bc (yG (fun e=>bc (Nat.ble (Nat.add e 1) i) (oc an i e) false) (vm o)) (yG (fun j=>bc (Nat.ble (Nat.add j 1) i) (Z_ (fun e=>bc (Nat.beq e j) true (oc an e j)) (vm o)) false) (Br an i [])) false) ops 0
theorem tO (a b:Nat):decide (a<b)=Nat.ble (a+1) b:=by
 by_cases h:a<b
 · rw[decide_eq_true h,Nat.ble_eq_true_of_le h]
 · rw[decide_eq_false h];symm;rw[Bool.eq_false_iff];intro e;exact h (Nat.le_of_ble_eq_true e)
theorem od (a b:Bool):bc a b false=(a&&b):=by cases a<;>rfl
theorem Yi (a b:Bool):bc a true b=(a||b):=by cases a<;>rfl
theorem Ib (ops:List Oper) (an:List (List Nat)):Bs ops an=AL ops an:=by
 unfold Bs AL
 rw[FT]
 congr 1
 funext ⟨o,i⟩
 simp only[od,Yi,qH,VU,wD,D1,pW,tO,Aw]
 rfl
noncomputable def aaa (l:List Operand):List Nat:=List.rec (motive:=fun _=>List Nat) [] (fun x _ ih=>Operand.rec (motive:=fun _=>List Nat) (fun t=>t::ih) (fun _=>ih) (fun _=>ih) (fun _=>ih) x) l
theorem VY (l:List Operand):aaa l=l.filterMap fun | .tmp t=>some t | _=>none:=by
 induction l with
 | nil=>rfl
 | cons x tl ih=>
   cases x<;>simp only[List.filterMap_cons,←ih]<;>rfl
noncomputable def opL (op:Op):List Operand:=match op with
 | .move x | .assign x | .box _ x | .load _ x | .nilCheck x | .unOp _ _ x | .convert _ _ x | .fieldAddr _ x _ | .field _ x _ | .extract x _=> [x]
 | .pick c a b=> [c,a,b]
 | .store _ a v | .binOp _ _ a v _ | .indexAddr _ a v | .index _ a v=> [a,v]
 | .alloc _=> []
 | .call c=>kN (match c.callee with | .value f=> [f] | .invoke r _=> [r] | .builtin _=> []) c.args.toList
 | op=>op.operands.toList
theorem aab (op:Op):opL op=op.operands.toList:=by
 cases op<;>try rfl
 rename_i c
 obtain ⟨dh,a,t⟩:=c
 cases dh<;>simp [opL,Op.operands,Call.operands,nr]
noncomputable def Bt (ops:List Oper) (an:List (List Nat)):Bool:=
 allI (fun o i=>bc (ob true (fun g=>bc (oc an i g.1) (ob false (fun p=>ob false (fun _=>true) p.dst) (iG ops g.1)) false) o.guard)
  (allI (fun p j=>bc (Nat.beq i j) true (ob true (fun d=>bc (ob true (fun a=>vl (Nat.beq a d)) o.dst) (bc (Av (aaa (opL o.op)) d) (bc (oc an i j) true (oc an j i)) true) false) p.dst)) ops 0) false) ops 0
theorem Ic (ops:List Oper) (an:List (List Nat)):Bt ops an=AM ops an:=by
 unfold Bt AM
 rw[FT]
 congr 1
 funext ⟨o,i⟩
 simp only[od,Yi,pW]
 congr 1
 · obtain ⟨dst,op,ty,pos,after,guard⟩:=o
   cases guard with
   | none=>rfl
   | some g=>
     show (dD an i g.1&&ob false (fun p=>ob false (fun _=>true) p.dst) (iG ops g.1))=_
     rw[gJ]
     congr 1
     cases ops[g.1]? with
     | none=>rfl
     | some p=>
       show ob false (fun _=>true) p.dst=(p.dst).isSome
       cases p.dst<;>rfl
 · rw[FT]
   congr 1
   funext ⟨p,j⟩
   show (Nat.beq i j||_)=(i==j||_)
   rw[Aw]
   congr 1
   obtain ⟨dst,op,ty,pos,after,guard⟩:=p
   cases dst with
   | none=>rfl
   | some d=>
     show (ob true (fun a=>vl (Nat.beq a d)) o.dst&&bc (Av (aaa (opL o.op)) d) (dD an i j||dD an j i) true)=(o.dst !=some d&&(!(tmpsOf o).contains d||dD an i j||dD an j i))
     congr 1
     · cases o.dst with
       | none=>rfl
       | some a=>
         show vl (Nat.beq a d)= !(some a==some d)
         rw[Option.some_beq_some,Aw]
         cases Nat.beq a d<;>rfl
     · rw[tN,VY,aab,Bool.or_assoc]
       show bc ((tmpsOf o).contains d) _ _=_
       cases (tmpsOf o).contains d<;>rfl
noncomputable def KA (an:List (List Nat)) (l:List Nat):Bool:=List.rec (motive:=fun _=>Bool) true (fun e rest ih=>List.rec (motive:=fun _=>Bool) true (fun f _ _=>bc (oc an f e) ih false) rest) l
theorem D2 (an:List (List Nat)):∀l,KA an l=tC an l
 | []=>rfl
 | [e]=>rfl
 | e::f::rest=>by
   show bc (oc an f e) (KA an (f::rest)) false=_
   rw[D2 an (f::rest),pW,od];rfl
noncomputable def Q_ (ops:List Oper):List Nat:=H_ (fun o _=>pV E o.op) ops 0
theorem Q' (ops:List Oper):Q_ E ops=mS E ops:=by
 unfold Q_ mS;rw[H'];simp only[sv]
noncomputable def D3 (bP:List Nat) (an:List (List Nat)) (i:Nat):Nat:=FQ (fun e=>oc an i e) bP
theorem Ie (bP:List Nat) (an:List (List Nat)) (i:Nat):D3 bP an i=E7 bP an i:=by
 unfold D3 E7;rw[Ow];simp only[pW]
noncomputable def FU (ops:List Oper) (bP:List Nat) (an:List (List Nat)) (k:Nat):List Nat:=
 kN (H_ (fun o i=>bc (pV E o.op) false (Nat.beq (D3 bP an i) k)) ops 0) (ob [] (fun x=> [x]) (iG bP k))
theorem Oy (ops:List Oper) (bP:List Nat) (an:List (List Nat)) (k:Nat):FU E ops bP an k=group E ops bP an k:=by
 unfold FU group
 rw[nr,H',gJ]
 congr 1
 · congr 1
   congr 1
   funext ⟨o,i⟩
   show bc (pV E o.op) false (Nat.beq (D3 bP an i) k)=(!fj E o.op&&(E7 bP an i==k))
   rw[sv,Ie,Aw];cases fj E o.op<;>rfl
 · cases bP[k]? <;>rfl
noncomputable def FV (ops:List Oper) (bP:List Nat) (an:List (List Nat)) (n:Nat):Nat→List Nat:=
 Nat.rec (motive:=fun _=>Nat→List Nat) (fun _=> []) (fun _ ih k=>kN (FU E ops bP an k) (canon (Nat.add k 1) ih)) n
theorem Bu (ops:List Oper) (bP:List Nat) (an:List (List Nat)):∀n k,FV E ops bP an n k=nN E ops bP an n k
 | 0,_=>rfl
 | n+1,k=>by
   show kN (FU E ops bP an k) (canon (k+1) (FV E ops bP an n))=_
   rw[kO,Bu ops bP an n,nr,Oy];rfl
noncomputable def AP (bP:List Nat) (an:List (List Nat)) (i:Nat):Nat:=Ky (fun e=>vl (oc an e i)) bP
theorem KC (bP:List Nat) (an:List (List Nat)) (i:Nat):AP bP an i=jP bP an i:=by
 unfold AP jP;rw[Ox];congr 2;funext e;rw[pW];cases dD an e i<;>rfl
noncomputable def KD (n:Nat):List Nat→List Nat:=Nat.rec (motive:=fun _=>List Nat→List Nat) (fun l=>l) (fun m ih l=>ih (m::l)) n
theorem D4:∀n l,KD n l=List.range.loop n l
 | 0,_=>rfl
 | n+1,l=>D4 n (n::l)
noncomputable def FW (ops:List Oper) (an:List (List Nat)) (bP:List Nat) (l:List Nat):List Nat→Nat→Bool:=
 List.rec (motive:=fun _=>List Nat→Nat→Bool) (fun seen k=>bc (yG (fun i=>Av seen i) (KD (iE ops) [])) (Nat.beq k (iE bP)) false)
  (fun i _ ih seen k=>bc (Nat.ble (Nat.add i 1) (iE ops)) (bc (Av seen i) false (bc (yG (fun j=>Av seen j) (Br an i []))
   (bc (ob (pV E (default:Oper).op) (fun o=>pV E o.op) (iG ops i)) (bc (ob false (fun e=>Nat.beq e i) (iG bP k)) (canon (Nat.add k 1) (ih (i::seen))) false)
    (bc (Nat.beq (D3 bP an i) k) (ih (i::seen) k) false)) false)) false) l
theorem yI (ops:Array Oper) (an:List (List Nat)) (bP:List Nat):∀l seen k,FW E ops.toList an bP l seen k=km E ops an bP l seen k
 | [],seen,k=>by
   show bc (yG (fun i=>Av seen i) (KD (iE ops.toList) [])) (Nat.beq k (iE bP)) false=_
   rw[od,qH,D4,fD,fD]
   simp only[tN]
   unfold km
   rw[Aw,Array.length_toList]
   rfl
 | i::rest,seen,k=>by
   show bc (Nat.ble (i+1) (iE ops.toList)) (bc (Av seen i) false (bc (yG (fun j=>Av seen j) (Br an i []))
    (bc (ob (pV E (default:Oper).op) (fun o=>pV E o.op) (iG ops.toList i)) (bc (ob false (fun e=>Nat.beq e i) (iG bP k)) (canon (k+1) (FW E ops.toList an bP rest (i::seen))) false)
     (bc (Nat.beq (D3 bP an i) k) (FW E ops.toList an bP rest (i::seen) k) false)) false)) false=_
   rw[kO,yI ops an bP rest,yI ops an bP rest,qH,wD,tN,Ie,fD]
   simp only[tN]
   rw[show ob (pV E (default:Oper).op) (fun o=>pV E o.op) (iG ops.toList i)=fj E ((ops.getD i default).op) by
    rw[gJ,sv]
    rw[show ops.getD i default=(ops.toList[i]?).getD default by rw[Array.getElem?_toList,Array.getD_eq_getD_getElem?]]
    cases ops.toList[i]? with
    | none=>rfl
    | some o=>exact sv E o.op]
   rw[show ob false (fun e=>Nat.beq e i) (iG bP k)=(bP[k]? ==some i) by rw[gJ];cases bP[k]? with
    | none=>rfl
    | some e=>rw[Option.some_beq_some,Aw];rfl]
   rw[km,tO]
   simp only[od]
   rw[←Aw (E7 bP an i) k,show ops.toList.length=ops.size from Array.length_toList]
   rw[ss,ss]
   show (Nat.ble (i+1) ops.size&&(bif List.contains seen i then false else _))=_
   unfold Hq
   cases Nat.ble (i+1) ops.size<;>cases List.contains seen i<;>cases (an.getD i []).all (fun j=>List.contains seen j)<;>cases fj E ((ops.getD i default).op)<;>rfl
noncomputable def nin (x:Nat) (l:List Nat):Bool:=List.rec (motive:=fun _=>Bool) true (fun y _ ih=>bc (Nat.beq x y) false ih) l
noncomputable def FX (l:List Nat):Bool:=List.rec (motive:=fun _=>Bool) true (fun x tl ih=>bc (nin x tl) ih false) l
theorem aac (x:Nat) (l:List Nat):nin x l= !l.contains x:=by
 induction l with
 | nil=>rfl
 | cons y tl ih=>
   show bc (Nat.beq x y) false (nin x tl)=_
   rw[ih,List.contains_cons,Aw]
   cases Nat.beq x y<;>rfl
theorem yJ:∀l,FX l=nodup l
 | []=>rfl
 | x::tl=>by
   show bc (nin x tl) (FX tl) false=_
   rw[yJ tl,aac,od];rfl
noncomputable def Ra {R:Type} (ops:Array Oper) (k:lL→R) (d:R):R:=
 pA ops.toList fun l=>pA (Q8 l []) fun an=>pA (Q_ E l) fun bP=>pA (FV E l bP an (Nat.add (iE bP) 1) 0) fun order=>
 bc (Bs l an) (bc (Bt l an) (bc (KA an bP) (bc (FX bP) (bc (FW E l an bP order [] 0) (k ⟨an,bP,order⟩) d) d) d) d) d
theorem Rb {R:Type} (ops:Array Oper) (k:lL→R) (d:R):Ra E ops k d=match rU E ops with | some pl=>k pl | none=>d:=by
 unfold Ra rU
 simp only[yH,Ia,Q',Bu,Ib,Ic,D2,yJ,yI,fD]
 generalize AL ops.toList (Hp ops.toList [])=a
 generalize AM ops.toList (Hp ops.toList [])=b
 generalize tC (Hp ops.toList []) (mS E ops.toList)=c
 generalize nodup (mS E ops.toList)=e
 show bc a (bc b (bc c (bc e (bc (km E ops _ _ (nN E ops.toList _ _ ((mS E ops.toList).length+1) 0) [] 0) _ d) d) d) d) d=_
 generalize km E ops (Hp ops.toList []) (mS E ops.toList) (nN E ops.toList (mS E ops.toList) (Hp ops.toList []) ((mS E ops.toList).length+1) 0) [] 0=f
 cases a<;>cases b<;>cases c<;>cases e<;>cases f<;>rfl
end Go.Ab.Fa
end
