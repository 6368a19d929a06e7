import Derived.Test.YtkkpegaeikljmaaGreatDoorA6
import Derived.Test.YtkkpegaeikljmaaGreatDoorW0
import Derived.Test.YtkkpegaeikljmaaGreatDoorEnv
import Derived.Test.YtkkpegaeikljmaaGreatDoorW10
import Derived.Test.YtkkpegaeikljmaaGreatDoorW11
import Derived.Test.YtkkpegaeikljmaaGreatDoorW7
namespace Go.Proofs.aF
open Go.Proofs Ab
set_option maxRecDepth 100000
set_option maxHeartbeats 4000000
set_option linter.unusedVariables false
set_option linter.unusedSimpArgs false
noncomputable def fj:Code:=(Tryz.f30.body).getD .skip
theorem lf:Tryz.f30.body=some fj:=by kernel_rfl
noncomputable def zW:Code:=(Tryz.f56.body).getD .skip
theorem SN:Tryz.f56.body=some zW:=by kernel_rfl
theorem cK {f:FuncId} {fn:Func} {c:Code} {args ts0 ts:List AV} {h h':ah} {x:oA} {v w:AV} {a b:Tmp} {t:TypeId} {call:aE} (hf:env.P.funcs[f]? =some fn) (hb:fn.body=some c) (ht:args++List.replicate (fn.ntmps - args.length) aB=ts0) (hx:x= .normal∨x= .ret)
 (e:Ev env call c ⟨ts0,h,[],.no⟩ x ⟨ts,h',[],.no⟩) {i:Nat} (hrs:(fn.results.toList,ts.getD a aB)=([.cell a t,.tmp b],AV.ptr i 0)) (hl:bk env h' t (.ptr i 0)=some v) (hw:ts.getD b aB=w):mz env call f args h (.tuple [v,w]) h':=by
 refine az hf hb ht hx e ?_
 rw[show fn.results.toList=[.cell a t,.tmp b] from congrArg Prod.fst hrs]
 simp only[qb,show ts.getD a aB= .ptr i 0 from congrArg Prod.snd hrs,hl,hw,Option.map_some]
 rfl
theorem me {n:Nat}:∀(k:Nat) {v:AV},AV.within n k v=true→AV.within n (k+1) v=true
 | 0,_,hv=>by cases hv
 | k+1,v,hv=>by
  cases v with
  | iface t v=>simp only[AV.within] at *;exact me k hv
  | agg cs=>rw[AV.within,List.all_eq_true] at *;exact fun x hx=>me k (hv x hx)
  | tuple cs=>rw[AV.within,List.all_eq_true] at *;exact fun x hx=>me k (hv x hx)
  | _=>first | exact hv | (simp only[AV.within] at *;exact hv)
theorem iW {n:Nat} {cs:List AV} {w:AV} (h:AV.within n 20 (.tuple [.agg cs,w])=true):AV.within n 20 (.agg cs)=true:=by
 have:AV.within n 19 (.agg cs)=true:=by
  rw[AV.within] at h
  simp only[List.all_cons,Bool.and_eq_true] at h
  exact h.1
 exact me 19 this
def lC (h0 h:ah) (cs:List AV) (m:Bool) (T B:Nat):Prop:=∃c1 c2,cs=c1++c2∧gY h0 h c1 m (aq T)∧gY h0 h c2 false (aq B)
theorem lC.mk {h0 h:ah} {cs c1 c2:List AV} {m:Bool} {T B:Nat} (w1:gY h0 h c1 m (aq T)) (w2:gY h0 h c2 false (aq B)) (e:cs=c1++c2):lC h0 h cs m T B:=⟨c1,c2,e,w1,w2⟩
theorem afe {d:Nat} {h:ah} {w0 w1 w2 w3:Int} {far:AV} {X:Nat} (w:cj h [.bool false,.int .u64 w0,.int .u64 w1,.int .u64 w2,.int .u64 w3,far,.int .i64 ((aq X).length:Nat)] false (aq X)) (aw:Tidy h) (hX:X≠0):
 aQ (d+1) (.fn 22) [.agg [.bool false,.int .u64 w0,.int .u64 w1,.int .u64 w2,.int .u64 w3,far,.int .i64 ((aq X).length:Nat)]] h= .ret (.agg [.bool true,.int .u64 w0,.int .u64 w1,.int .u64 w2,.int .u64 w3,far,.int .i64 ((aq X).length:Nat)]) h:=by
 obtain ⟨_,_,_,_,us,al8,e,sc,wf,hc⟩:=w
 simp only[List.cons.injEq,AV.int.injEq,and_true,true_and] at e
 obtain ⟨rfl,rfl,rfl,rfl,rfl,rfl⟩:=e
 have hl:0<(aq X).length:=List.length_pos_iff.2 fun e=>hX (dZ.1 e)
 have Kb:decide (0<(((aq X).length:Nat):Int))=true:=decide_eq_true o!
 obtain ⟨h1,h2,h3,h4,ev,y1,a1,_,g1,g2⟩:=Hg (call:=aQ d) (mi:=false) (w0:=w0) (w1:=w1) (w2:=w2) (w3:=w3) (far:=far) (us:=((aq X).length:Nat)) aw (Nat.zero_le _) rfl sc
 rw[Kb] at g1 g2 ev
 exact ai rfl (bn (a:=2) (t:=60) (v:=AV.agg [AV.bool true,AV.int .u64 w0,AV.int .u64 w1,AV.int .u64 w2,AV.int .u64 w3,far,AV.int .i64 ((aq X).length:Nat)]) Tryz.func22 JD k! (.inr rfl) ev k! (aN g2 k!)) a1 (by rw[Hk];exact wf)
theorem JQ {d:Nat} {h:ah} {cst:List AV} {m:Bool} {X:Nat} (hx:cj h cst m (aq X)) (aw:Tidy h):
 ∃ci hk,aQ (d+5) (.fn 56) [.agg cst] h= .ret (.agg (cst++ci)) hk∧Grow h hk∧gY h hk ci false (aq 1):=by
 obtain ⟨du,dx,dy,dz,kH,aW,rfl,scx,wfx,hcx⟩:=id hx
 obtain ⟨h1,aO,aK,bm,aC,ck⟩:=de aw (ar.cells (au m du dx dy dz aW kH) 60 false)
 have aD:Has h h1:=ck
 obtain ⟨h2,bD,bP,iA,bB,b8⟩:=de aK (ar.cells [(aj false),(aa 0),(aa 0),(aa 0),(aa 0),bE,(af 0),(aj false),(aa 0),(aa 0),(aa 0),(aa 0),bE,(af 0)] 66 false)
 have b7:=aD.trans b8
 obtain ⟨co,h3,pA,fZ,zo⟩:=uN (d:=d) (k:=1) o! bP
 have bt:=fZ.y
 have uL:=fZ.n
 obtain ⟨QA,QB,QC,QD,s5,rfl,osc,ohc,ohf⟩:=id zo
 have aX:=b7.trans fZ.a
 have sc5:AV.scalar aW=true:=scx
 have sc6:AV.scalar s5=true:=osc
 obtain ⟨h4,xi,gk,wL,jH,PD⟩:=b9 (t:=66) (n:=14) (i:=h1.nx) (L:=[(aj m),(aa du),(aa dx),(aa dy),(aa dz),aW,(af kH),(aj false),(aa QA),(aa QB),(aa QC),(aa QD),s5,(ag ((aq 1).length))]) bt (fZ.a _ _ bB) k! rfl rfl z!
 have iy:=Has.ak aX PD aw o!
 have c7:AV.same 20 (AV.agg (au m du dx dy dz aW kH)) (AV.agg (au m du dx dy dz aW kH))=true:=hx.same
 have ev:=pk (d+4) zW ((AV.agg (au m du dx dy dz aW kH))::aV 5) h .ret h4 (NN aO (fun i=>(AV.ptr i 0))<|NN bD (fun i=>(AV.ptr i 0))<|MM (aJ 60 0 (AV.agg (au m du dx dy dz aW kH)) (b8 _ _ aC) k!)<|EE pA<|CC<|SS xi<|HH (aJ 60 0 (AV.agg (au m du dx dy dz aW kH)) (b8 _ _ aC) k!)<|HH c7<|HH (aJ 60 0 (AV.agg (au m du dx dy dz aW kH)) (fZ.a _ _ (b8 _ _ aC)) k!)<|HH c7<|ZZ) k!
 have zz:=(zo.kept PD o! o!)
 exact ⟨_,aU rfl (bn (a:=2) (t:=66) Tryz.func56 SN k! (.inr rfl) ev k! (aN jH k!)) aw ⟨gk,iy,by omega⟩ (P:=fun hh=>gY h hh _ _ _) (zz.mono o!) fun v=>(zz.mono o!).fit (Nat.le_refl _) (gp (a:=[AV.bool m,AV.int .u64 du,AV.int .u64 dx,AV.int .u64 dy,AV.int .u64 dz,aW,AV.int .i64 kH]) v).2⟩
theorem yL {s:List UInt8} (h:iF s=true):s.length<1000000:=by
 simp only[iF,Bool.and_eq_true,decide_eq_true_eq] at h
 omega
theorem rj {s:List UInt8} (h:iF s=true):jy (cL s):=by
 simp only[iF,Bool.and_eq_true,List.all_eq_true] at h
 intro c hc
 have:=h.1.1.1 c hc
 simp only[oc,Bool.and_eq_true,decide_eq_true_eq] at this
 exact this
theorem Dy {s:List UInt8} {X:Nat} (hX:X=bJ (cL s)) (h:iF s=true):(aq X).length<134217728:=by
 have h1:=pC (rj h)
 have h2:(aq X).length≤(cL s).length:=gZ (Nat.lt_of_lt_of_le (hX▸h1) (Nat.pow_le_pow_left (by decide) _))
 have h3:=yL h
 rw[fM] at h2
 omega
theorem HF {s:List UInt8} (h:iF s=true) (h0:bJ (cL s)=0):s=[48]:=by
 have hd:=rj h
 simp only[iF,Bool.and_eq_true,Bool.or_eq_true,decide_eq_true_eq,Bool.not_eq_true',decide_eq_false_iff_not] at h
 cases s with
 | nil=>exact absurd rfl h.1.1.2
 | cons x r=>
  have hx:=hd x.toNat (by simp [cL])
  have e:cL (x::r)=x.toNat::cL r:=rfl
  rw[e,yB] at h0
  have hp:0<10^(cL r).length:=Nat.pow_pos (by decide)
  have h1:(x.toNat - 48)*10^(cL r).length=0:=by omega
  have h2:x.toNat - 48=0:=by
   rcases Nat.mul_eq_zero.1 h1 with h | h
   · exact h
   · omega
  have h3:x=48:=UInt8.toNat_inj.1 (show x.toNat=48 by omega)
  subst h3
  rcases h.2 with h | h
  · exact absurd rfl h
  · have:r=[]:=List.length_eq_zero_iff.1 (by simpa using h)
    rw[this]
theorem UC {n:Nat} (e:aq n=[1]):n=1:=by
 have:=cd n
 rw[e] at this
 simpa [ay] using this.symm
theorem UD {cz:Int} {D:Nat} (h:cz=SL false (aq D) false (aq 1)):cz≤0↔D≤1:=by
 have w1:aq 1=[1]:=eK (by decide) (by decide)
 have c:=tI D 1
 by_cases q:D=0
 · subst q
   rw[h,cO,w1]
   simp [SL]
 · have cR:aq D≠ []:=fun e=>q (dZ.1 e)
   have e:SL false (aq D) false (aq 1)=tH (aq D) (aq 1):=by
    simp [SL,cR,w1]
   rw[h,e,c]
   split
   · omega
   · split<;>omega
def jq (a:List UInt8):Option (Bool×Nat×Nat):=
 if iF (cutAt 47 (aH a)).1=true then
  if decide (a.head?=some 45)=true∧(cutAt 47 (aH a)).1=[48] then none
  else if (cutAt 47 (aH a)).2.2=true then
   if iF (cutAt 47 (aH a)).2.1=true then
    if bJ (cL (cutAt 47 (aH a)).2.1)≤1 then none
    else if Nat.gcd (bJ (cL (cutAt 47 (aH a)).1)) (bJ (cL (cutAt 47 (aH a)).2.1))=1 then some (decide (a.head?=some 45),bJ (cL (cutAt 47 (aH a)).1),bJ (cL (cutAt 47 (aH a)).2.1)) else none
   else none
  else some (decide (a.head?=some 45),bJ (cL (cutAt 47 (aH a)).1),1)
 else none
theorem f_ {a t ab be:List UInt8} {ng sp p1 p2:Bool} {X D:Nat} (ht:t=aH a) (hZ:ng=decide (a.head?=some 45)) (fW:ab=(cutAt 47 t).1) (h_:be=(cutAt 47 t).2.1) (ic:sp=(cutAt 47 t).2.2) (E4:p1=iF ab) (uj:p2=iF be) (hX:X=bJ (cL ab)) (hD:D=bJ (cL be)):
 jq a=if p1=true then (if ng=true∧ab=[48] then none else if sp=true then (if p2=true then (if D≤1 then none else if Nat.gcd X D=1 then some (ng,X,D) else none) else none) else some (ng,X,1)) else none:=by
 subst hX hD E4 uj fW h_ ic ht hZ
 rfl
theorem jT (c:UInt8):∀(s:List UInt8),(cutAt c s).1.length≤s.length∧(cutAt c s).2.1.length≤s.length
 | []=>⟨Nat.le_refl _,Nat.le_refl _⟩
 | x::s=>by
  obtain ⟨h1,h2⟩:=jT c s
  rw[cutAt]
  split
  · simp
  · simp only[List.length_cons];omega
def Shape (cs:List AV):Prop:=∃(m:Bool) (w0 w1 w2 w3:Int) (far:AV) (us:Int) (n:Bool) (v0 v1 v2 v3:Int) (gar:AV) (vs:Int),cs=[.bool m,.int .u64 w0,.int .u64 w1,.int .u64 w2,.int .u64 w3,far,.int .i64 us,.bool n,.int .u64 v0,.int .u64 v1,.int .u64 v2,.int .u64 v3,gar,.int .i64 vs]∧AV.scalar far=true∧AV.scalar gar=true
theorem ady {d:Nat} {h:ah} {a:List UInt8} (Df:a.length<2^60) (aw:Tidy h):
 ∃cs hk,aQ (d+15) (.fn 30) [.str a] h= .ret (.tuple [.agg cs,.bool (jq a).isSome]) hk∧Grow h hk∧(∀m X D,(jq a=some (m,X,D)→lC h hk cs m X D))∧Shape cs:=by
 obtain ⟨t,ht⟩:∃t,t=aH a:=⟨_,rfl⟩
 obtain ⟨ng,hZ⟩:∃ng,ng=decide (a.head?=some 45):=⟨_,rfl⟩
 obtain ⟨ab,fW⟩:∃ab,ab=(cutAt 47 t).1:=⟨_,rfl⟩
 obtain ⟨be,h_⟩:∃be,be=(cutAt 47 t).2.1:=⟨_,rfl⟩
 obtain ⟨sp,ic⟩:∃sp,sp=(cutAt 47 t).2.2:=⟨_,rfl⟩
 obtain ⟨p1,E4⟩:∃p1,p1=iF ab:=⟨_,rfl⟩
 obtain ⟨p2,uj⟩:∃p2,p2=iF be:=⟨_,rfl⟩
 obtain ⟨X,hX⟩:∃X,X=bJ (cL ab):=⟨_,rfl⟩
 obtain ⟨D,hD⟩:∃D,D=bJ (cL be):=⟨_,rfl⟩
 obtain ⟨cz,hcz⟩:∃cz,cz=SL false (aq D) false (aq 1):=⟨_,rfl⟩
 obtain ⟨io,L1⟩:∃io,io=(!false&&decide (aq (Nat.gcd X D)=[1])):=⟨_,rfl⟩
 have gL:t.length<2^60:=by
  have:(aH a).length≤a.length:=by unfold aH;split<;>simp
  rw[ht];omega
 have al9:ab.length<2^60:=by have:=(jT 47 t).1;rw[fW];omega
 have ajo:be.length<2^60:=by have:=(jT 47 t).2;rw[h_];omega
 have kP:∀hh,aQ (d+14) (.fn 15) [.str a,.str [45]] hh= .ret (.tuple [.str t,.bool ng]) hh:=fun hh=>by rw[ht,hZ];exact Eu (d:=d+11)
 have kC:∀hh,aQ (d+14) (.fn 16) [.str t,.str [47]] hh= .ret (.tuple [.str ab,.str be,.bool sp]) hh:=fun hh=>by rw[fW,h_,ic];exact aaO (d:=d+10) gL
 obtain ⟨h1,aO,aK,bm,aC,ck⟩:=de aw (ar.cells [(aj false),(aa 0),(aa 0),(aa 0),(aa 0),bE,(af 0),(aj false),(aa 0),(aa 0),(aa 0),(aa 0),bE,(af 0)] 66 false)
 have aD:Has h h1:=ck
 have PE:=R0|>Ra aO (fun i=>(AV.ptr i 0))|>Rn 2|>Re (show (aQ (d+14)) (.fn 15) [(AV.str a),(AV.str [45])] h1= .ret (AV.tuple [(AV.str t),(aj ng)]) h1 from (kP _))|>Rn 6|>Re (show (aQ (d+14)) (.fn 16) [(AV.str t),(AV.str [47])] h1= .ret (AV.tuple [(AV.str ab),(AV.str be),(aj sp)]) h1 from (kC _))|>Rn 8|>Re (show (aQ (d+14)) (.fn 55) [(AV.str ab)] h1= .ret (aj p1) h1 from (by rw[E4];exact Lw (d:=d+12) al9 aK))|>Rn 2
 rcases Bool.eq_false_or_eq_true (!p1) with f0 | f0
 · have g1:p1=false:=by simpa using f0
   have q2:(!p1)=true:=d!
   obtain ⟨h3,ze,bt,ky,eb,qM⟩:=b9 (t:=66) (n:=14) (i:=h.nx) (L:=[(aj false),(aa 0),(aa 0),(aa 0),(aa 0),bE,(af 0),(aj false),(aa 0),(aa 0),(aa 0),(aa 0),bE,(af 0)]) aK aC k! rfl rfl z!
   have aX:=Has.ak aD qM aw o!
   have ev:=nf (d+14) fj ((AV.str a)::aV 65) h .ret h3 (PE|>Rb q2|>Rb q2|>Rb q2|>Rv (aG (a:=some (aj true)) (b:=some aB) q2)|>Rc|>Rt|>Rt|>Rt|>Rc|>Rt|>Rc|>Rs ze|>Rc) k!
   have e:jq a=none:=by rw[f_ ht hZ fW h_ ic E4 uj hX hD];simp [g1]
   rw[e]
   obtain ⟨hk,k1,k2,k3⟩:=aU rfl (cK (a:=2) (b:=3) (t:=66) (v:= .agg [(aj false),(aa 0),(aa 0),(aa 0),(aa 0),bE,(af 0),(aj false),(aa 0),(aa 0),(aa 0),(aa 0),bE,(af 0)]) (w:= .bool false) Tryz.func30 lf k! (.inr rfl) ev k! (aN eb k!) k!) aw ⟨bt,aX,by omega⟩ (P:=fun hh=>∀m X D,(none:Option (Bool×Nat×Nat))=some (m,X,D)→lC h hh [(aj false),(aa 0),(aa 0),(aa 0),(aa 0),bE,(af 0),(aj false),(aa 0),(aa 0),(aa 0),(aa 0),bE,(af 0)] m X D) (fun m X D hm=>by cases hm) fun v=>(fun m X D hm=>by cases hm)
   exact ⟨[(aj false),(aa 0),(aa 0),(aa 0),(aa 0),bE,(af 0),(aj false),(aa 0),(aa 0),(aa 0),(aa 0),bE,(af 0)],hk,k1,k2,k3,⟨_,_,_,_,_,_,_,_,_,_,_,_,_,_,rfl,rfl,rfl⟩⟩
 · have g1:p1=true:=by simpa using f0
   have hlX:=yL (E4.symm.trans g1)
   have hdX:=rj (E4.symm.trans g1)
   have hwX:=Dy hX (E4.symm.trans g1)
   have q2:(!p1)=false:=d!
   have r2_:=PE|>Rb q2|>Rc|>Rb q2|>Rc
   rcases Bool.eq_false_or_eq_true ng with f1 | f1
   · have g2:ng=true:=f1
     have q3:ng=true:=d!
     have r3_:=r2_|>Rb q3|>Rc|>Rb q3|>Rv (EO 9 false true ab [48])|>Rb q2|>Rv (aG (a:=some (aj (decide (ab=[48])))) (b:=some (aj false)) q3)|>Rv (aL (a:=some (aj true)) (b:=some (aj (decide (ab=[48])))) q2)|>Rc
     rcases Bool.eq_false_or_eq_true (decide (ab=[48])) with f2 | f2
     · have g3:ab=[48]:=of_decide_eq_true f2
       have q4:(decide (ab=[48]))=true:=d!
       obtain ⟨h5,pz,fA,wM,lu,iO⟩:=b9 (t:=66) (n:=14) (i:=h.nx) (L:=[(aj false),(aa 0),(aa 0),(aa 0),(aa 0),bE,(af 0),(aj false),(aa 0),(aa 0),(aa 0),(aa 0),bE,(af 0)]) aK aC k! rfl rfl z!
       have ep:=Has.ak aD iO aw o!
       have ev:=nf (d+14) fj ((AV.str a)::aV 65) h .ret h5 (r3_|>Rb q4|>Rb q4|>Rb q4|>Rv (aG (a:=some (aj true)) (b:=some aB) q4)|>Rt|>Rc|>Rs pz|>Rc) k!
       have e:jq a=none:=by rw[f_ ht hZ fW h_ ic E4 uj hX hD];simp [g1,g2,g3]
       rw[e]
       obtain ⟨hk,k1,k2,k3⟩:=aU rfl (cK (a:=2) (b:=3) (t:=66) (v:= .agg [(aj false),(aa 0),(aa 0),(aa 0),(aa 0),bE,(af 0),(aj false),(aa 0),(aa 0),(aa 0),(aa 0),bE,(af 0)]) (w:= .bool false) Tryz.func30 lf k! (.inr rfl) ev k! (aN lu k!) k!) aw ⟨fA,ep,by omega⟩ (P:=fun hh=>∀m X D,(none:Option (Bool×Nat×Nat))=some (m,X,D)→lC h hh [(aj false),(aa 0),(aa 0),(aa 0),(aa 0),bE,(af 0),(aj false),(aa 0),(aa 0),(aa 0),(aa 0),bE,(af 0)] m X D) (fun m X D hm=>by cases hm) fun v=>(fun m X D hm=>by cases hm)
       exact ⟨[(aj false),(aa 0),(aa 0),(aa 0),(aa 0),bE,(af 0),(aj false),(aa 0),(aa 0),(aa 0),(aa 0),bE,(af 0)],hk,k1,k2,k3,⟨_,_,_,_,_,_,_,_,_,_,_,_,_,_,rfl,rfl,rfl⟩⟩
     · have g3:¬ab=[48]:=of_decide_eq_false f2
       have ajp:X≠0:=fun e0=>g3 (HF (E4.symm.trans g1) (hX.symm.trans e0))
       have q4:(decide (ab=[48]))=false:=d!
       have r4_:=r3_|>Rb q4|>Rc|>Rb q4|>Rc
       rcases Bool.eq_false_or_eq_true sp with f3 | f3
       · have g4:sp=true:=by simpa using f3
         have q5:sp=true:=d!
         have r5_:=r4_|>Rb q5|>Rc|>Rb q5|>Re (show (aQ (d+14)) (.fn 55) [(AV.str be)] h1= .ret (aj p2) h1 from (by rw[uj];exact Lw (d:=d+12) ajo aK))|>Rb q5|>Rc|>Rb q4|>Rv (aG (a:=some (aj (!p2))) (b:=some (aj false)) q5)|>Rv (aL (a:=some (aj true)) (b:=some (aj (!p2))) q4)
         rcases Bool.eq_false_or_eq_true (!p2) with f4 | f4
         · have g5:p2=false:=by simpa using f4
           have q6:(!p2)=true:=d!
           obtain ⟨h7,AF,eC,EV,rN,iQ⟩:=b9 (t:=66) (n:=14) (i:=h.nx) (L:=[(aj false),(aa 0),(aa 0),(aa 0),(aa 0),bE,(af 0),(aj false),(aa 0),(aa 0),(aa 0),(aa 0),bE,(af 0)]) aK aC k! rfl rfl z!
           have eJ:=Has.ak aD iQ aw o!
           have ev:=nf (d+14) fj ((AV.str a)::aV 65) h .ret h7 (r5_|>Rb q6|>Rc|>Rs AF|>Rc) k!
           have e:jq a=none:=by rw[f_ ht hZ fW h_ ic E4 uj hX hD];simp [g1,g2,g3,g4,g5]
           rw[e]
           obtain ⟨hk,k1,k2,k3⟩:=aU rfl (cK (a:=2) (b:=3) (t:=66) (v:= .agg [(aj false),(aa 0),(aa 0),(aa 0),(aa 0),bE,(af 0),(aj false),(aa 0),(aa 0),(aa 0),(aa 0),bE,(af 0)]) (w:= .bool false) Tryz.func30 lf k! (.inr rfl) ev k! (aN rN k!) k!) aw ⟨eC,eJ,by omega⟩ (P:=fun hh=>∀m X D,(none:Option (Bool×Nat×Nat))=some (m,X,D)→lC h hh [(aj false),(aa 0),(aa 0),(aa 0),(aa 0),bE,(af 0),(aj false),(aa 0),(aa 0),(aa 0),(aa 0),bE,(af 0)] m X D) (fun m X D hm=>by cases hm) fun v=>(fun m X D hm=>by cases hm)
           exact ⟨[(aj false),(aa 0),(aa 0),(aa 0),(aa 0),bE,(af 0),(aj false),(aa 0),(aa 0),(aa 0),(aa 0),bE,(af 0)],hk,k1,k2,k3,⟨_,_,_,_,_,_,_,_,_,_,_,_,_,_,rfl,rfl,rfl⟩⟩
         · have g5:p2=true:=by simpa using f4
           have hlD:=yL (uj.symm.trans g5)
           have hdD:=rj (uj.symm.trans g5)
           have hwD:=Dy hD (uj.symm.trans g5)
           have q6:(!p2)=false:=d!
           obtain ⟨cx,h7,ml,oM,zx⟩:=dk (d:=d+10) hlX hdX aK
           have eC:=oM.y
           have IA:=oM.n
           rw[←hX] at zx
           obtain ⟨du,dx,dy,dz,aW,rfl,LA,xhc,xhf⟩:=id zx
           have eJ:=aD.trans oM.a
           obtain ⟨h8,xp,eQ,BE,nI,LB⟩:=de eC (ar.cells (au false 0 0 0 0 bE 0) 60 false)
           have jl:=eJ.trans LB
           have Ch:Has h7 h8:=LB
           have ama:AV.scalar aW=true:=LA
           obtain ⟨h9,Sg,gR,GY,pH,B1⟩:=b9 (t:=60) (n:=7) (i:=h7.nx) (L:=(bz false du dx dy dz aW ((aq X).length))) eQ nI k! rfl rfl z!
           have nm:=Has.ak jl B1 aw o!
           have yM:=Has.ak Ch B1 eC o!
           obtain ⟨ki,tL,cS,xa,iD,g8⟩:=b9 (t:=60) (n:=7) (i:=h7.nx) (L:=(bz true du dx dy dz aW ((aq X).length))) gR pH k! rfl rfl z!
           have cP:=Has.ak nm g8 aw o!
           have HG:=Has.ak yM g8 eC o!
           have VZ:(!sp)=false:=d!
           obtain ⟨cb,tG,lU,di,zb⟩:=dk (d:=d+10) hlD hdD cS
           have fl:=di.y
           have Er:=di.n
           rw[←hD] at zb
           obtain ⟨qP,qQ,qR,qS,fH,rfl,bsc,bhc,bhf⟩:=id zb
           have gu:=cP.trans di.a
           have HI:=HG.trans di.a
           obtain ⟨pP,O0,dS,oZ,fE,o9⟩:=de fl (ar.cells (au false 0 0 0 0 bE 0) 60 false)
           have fm:=gu.trans o9
           have aa0:=HI.trans o9
           have mf:Has tG pP:=o9
           have ajq:AV.scalar fH=true:=bsc
           obtain ⟨vJ,qI,iP,Em,jJ,mK⟩:=b9 (t:=60) (n:=7) (i:=tG.nx) (L:=(bz false qP qQ qR qS fH ((aq D).length))) dS fE k! rfl rfl z!
           have jv:=Has.ak fm mK aw o!
           have HJ:=Has.ak aa0 mK eC o!
           have nN:=Has.ak mf mK fl o!
           obtain ⟨co,E0,BY,gG,zo⟩:=uN (d:=d+10) (k:=1) o! iP
           have ij:=gG.y
           have aaf:=gG.n
           obtain ⟨QA,QB,QC,QD,s5,rfl,osc,ohc,ohf⟩:=id zo
           have iE:=jv.trans gG.a
           have PF:=HJ.trans gG.a
           have Dz:=nN.trans gG.a
           have c18:AV.same 20 (AV.agg (bz false qP qQ qR qS fH ((aq D).length))) (AV.agg (bz false qP qQ qR qS fH ((aq D).length)))=true:=zb.whole.same
           have r6_:=r5_|>Rb q6|>Rc|>Re ml|>Ra xp (fun i=>(AV.ptr i 0))|>Rs Sg|>Rc|>Rb q3|>Rm (aJ 60 0 (AV.agg (bz false du dx dy dz aW ((aq X).length))) pH k!)|>Re (show (aQ (d+14)) (.fn 22) [(AV.agg (bz false du dx dy dz aW ((aq X).length)))] h9= .ret (AV.agg (bz true du dx dy dz aW ((aq X).length))) h9 from (afe (d:=d+13) (zx.grow yM o!).whole gR ajp))|>Rs tL|>Rn 2|>Rb VZ|>Rc|>Re lU|>Ra O0 (fun i=>(AV.ptr i 0))|>Rs qI|>Rm (aJ 60 0 (AV.agg (bz false qP qQ qR qS fH ((aq D).length))) jJ k!)|>Re BY|>Re (show (aQ (d+14)) (.fn 57) [(AV.agg (bz false qP qQ qR qS fH ((aq D).length))),(AV.agg (bz false QA QB QC QD s5 ((aq 1).length)))] E0= .ret (af cz) E0 from (by rw[hcz];exact JP (d:=d+12) (zb.grow Dz o!).whole zo.whole ij (Nat.zero_le _)))|>Rv (yV 3 false true .i64 cz 0)|>Rh (aJ 60 0 (AV.agg (bz false qP qQ qR qS fH ((aq D).length))) jJ k!)|>Rh c18|>Rh (aJ 60 0 (AV.agg (bz false qP qQ qR qS fH ((aq D).length))) (gG.a _ _ jJ) k!)|>Rh c18
           rcases Bool.eq_false_or_eq_true (decide (cz≤0)) with f5 | f5
           · have g6:D≤1:=(UD hcz).1 (of_decide_eq_true f5)
             have Lx:(decide (cz≤0))=true:=d!
             obtain ⟨Fq,tN,mO,JC,sq,nO⟩:=b9 (t:=66) (n:=14) (i:=h.nx) (L:=[(aj false),(aa 0),(aa 0),(aa 0),(aa 0),bE,(af 0),(aj false),(aa 0),(aa 0),(aa 0),(aa 0),bE,(af 0)]) ij (gG.a _ _ (mK _ _ o! (o9 _ _ (di.a _ _ (g8 _ _ o! (B1 _ _ o! (LB _ _ (oM.a _ _ aC)))))))) k! rfl rfl z!
             have mP:=Has.ak iE nO aw o!
             have ev:=nf (d+14) fj ((AV.str a)::aV 65) h .ret Fq (r6_|>Rb Lx|>Rc|>Rs tN|>Rc) k!
             have e:jq a=none:=by rw[f_ ht hZ fW h_ ic E4 uj hX hD];simp [g1,g2,g3,g4,g5,g6]
             rw[e]
             obtain ⟨hk,k1,k2,k3⟩:=aU rfl (cK (a:=2) (b:=3) (t:=66) (v:= .agg [(aj false),(aa 0),(aa 0),(aa 0),(aa 0),bE,(af 0),(aj false),(aa 0),(aa 0),(aa 0),(aa 0),bE,(af 0)]) (w:= .bool false) Tryz.func30 lf k! (.inr rfl) ev k! (aN sq k!) k!) aw ⟨mO,mP,by omega⟩ (P:=fun hh=>∀m X D,(none:Option (Bool×Nat×Nat))=some (m,X,D)→lC h hh [(aj false),(aa 0),(aa 0),(aa 0),(aa 0),bE,(af 0),(aj false),(aa 0),(aa 0),(aa 0),(aa 0),bE,(af 0)] m X D) (fun m X D hm=>by cases hm) fun v=>(fun m X D hm=>by cases hm)
             exact ⟨[(aj false),(aa 0),(aa 0),(aa 0),(aa 0),bE,(af 0),(aj false),(aa 0),(aa 0),(aa 0),(aa 0),bE,(af 0)],hk,k1,k2,k3,⟨_,_,_,_,_,_,_,_,_,_,_,_,_,_,rfl,rfl,rfl⟩⟩
           · have g6:¬D≤1:=fun e0=>absurd ((UD hcz).2 e0) (of_decide_eq_false f5)
             have Lx:(decide (cz≤0))=false:=d!
             obtain ⟨cg,Fq,aa1,rk,wg⟩:=B6 (d:=d+5) ((zx.grow PF o!).sign (m':=true)).whole (zb.grow Dz o!).whole hwX hwD ij
             have mO:=rk.y
             have ajr:=rk.n
             obtain ⟨Qr,Qs,Qu,Qv,Qw,vM,rfl,gsc,gwf,gc⟩:=id wg
             have mP:=iE.trans rk.a
             have Ci:=PF.trans rk.a
             have Wf:=Dz.trans rk.a
             have r7_:=r6_|>Rb Lx|>Rm (aJ 60 0 (AV.agg (bz true du dx dy dz aW ((aq X).length))) (gG.a _ _ (mK _ _ o! (o9 _ _ (di.a _ _ iD)))) k!)|>Rm (aJ 60 0 (AV.agg (bz false qP qQ qR qS fH ((aq D).length))) (gG.a _ _ jJ) k!)|>Re aa1|>Re (show (aQ (d+14)) (.fn 47) [(AV.agg (au false Qr Qs Qu Qv vM Qw))] Fq= .ret (aj io) Fq from (by rw[L1];exact jw (d:=d+12) wg mO (Nat.zero_le _)))|>Rc
             rcases Bool.eq_false_or_eq_true (!io) with f6 | f6
             · have g7:¬Nat.gcd X D=1:=fun e0=>by rw[L1,e0,eK (n:=1) (by decide) (by decide)] at f6;cases f6
               have q21:(!io)=true:=d!
               obtain ⟨h22,Oo,BT,Zu,O6,HK⟩:=b9 (t:=66) (n:=14) (i:=h.nx) (L:=[(aj false),(aa 0),(aa 0),(aa 0),(aa 0),bE,(af 0),(aj false),(aa 0),(aa 0),(aa 0),(aa 0),bE,(af 0)]) mO (rk.a _ _ (gG.a _ _ (mK _ _ o! (o9 _ _ (di.a _ _ (g8 _ _ o! (B1 _ _ o! (LB _ _ (oM.a _ _ aC))))))))) k! rfl rfl z!
               have zS:=Has.ak mP HK aw o!
               have ev:=nf (d+14) fj ((AV.str a)::aV 65) h .ret h22 (r7_|>Rb q21|>Rc|>Rs Oo|>Rc) k!
               have e:jq a=none:=by rw[f_ ht hZ fW h_ ic E4 uj hX hD];simp [g1,g2,g3,g4,g5,g6,g7]
               rw[e]
               obtain ⟨hk,k1,k2,k3⟩:=aU rfl (cK (a:=2) (b:=3) (t:=66) (v:= .agg [(aj false),(aa 0),(aa 0),(aa 0),(aa 0),bE,(af 0),(aj false),(aa 0),(aa 0),(aa 0),(aa 0),bE,(af 0)]) (w:= .bool false) Tryz.func30 lf k! (.inr rfl) ev k! (aN O6 k!) k!) aw ⟨BT,zS,by omega⟩ (P:=fun hh=>∀m X D,(none:Option (Bool×Nat×Nat))=some (m,X,D)→lC h hh [(aj false),(aa 0),(aa 0),(aa 0),(aa 0),bE,(af 0),(aj false),(aa 0),(aa 0),(aa 0),(aa 0),bE,(af 0)] m X D) (fun m X D hm=>by cases hm) fun v=>(fun m X D hm=>by cases hm)
               exact ⟨[(aj false),(aa 0),(aa 0),(aa 0),(aa 0),bE,(af 0),(aj false),(aa 0),(aa 0),(aa 0),(aa 0),bE,(af 0)],hk,k1,k2,k3,⟨_,_,_,_,_,_,_,_,_,_,_,_,_,_,rfl,rfl,rfl⟩⟩
             · have g7:Nat.gcd X D=1:=by rw[L1] at f6;simp at f6;exact UC f6
               have q21:(!io)=false:=d!
               obtain ⟨h22,Oo,BT,Zu,O6,HK⟩:=b9 (t:=66) (n:=14) (i:=h.nx) (L:=[(aj true),(aa du),(aa dx),(aa dy),(aa dz),aW,(ag ((aq X).length)),(aj false),(aa qP),(aa qQ),(aa qR),(aa qS),fH,(ag ((aq D).length))]) mO (rk.a _ _ (gG.a _ _ (mK _ _ o! (o9 _ _ (di.a _ _ (g8 _ _ o! (B1 _ _ o! (LB _ _ (oM.a _ _ aC))))))))) k! rfl rfl z!
               have zS:=Has.ak mP HK aw o!
               have ev:=nf (d+14) fj ((AV.str a)::aV 65) h .ret h22 (r7_|>Rb q21|>Rm (aJ 60 0 (AV.agg (bz true du dx dy dz aW ((aq X).length))) (rk.a _ _ (gG.a _ _ (mK _ _ o! (o9 _ _ (di.a _ _ iD))))) k!)|>Rm (aJ 60 0 (AV.agg (bz false qP qQ qR qS fH ((aq D).length))) (rk.a _ _ (gG.a _ _ jJ)) k!)|>Rc|>Rs Oo|>Rc) k!
               have e:jq a=some (true,X,D):=by rw[f_ ht hZ fW h_ ic E4 uj hX hD];simp [g1,g2,g3,g4,g5,g6,g7]
               rw[e]
               have z1:=((((zx.grow Ci o!).kept HK o! o!).sign (m':=true))).mono (h1:=h) o!
               have z2:=(((zb.grow Wf o!).kept HK o! o!)).mono (h1:=h) o!
               have w:lC h h22 _ true X D:=lC.mk z1 z2 rfl
               obtain ⟨hk,k1,k2,k3⟩:=aU rfl (cK (a:=2) (b:=3) (t:=66) (v:= .agg [(aj true),(aa du),(aa dx),(aa dy),(aa dz),aW,(ag ((aq X).length)),(aj false),(aa qP),(aa qQ),(aa qR),(aa qS),fH,(ag ((aq D).length))]) (w:= .bool true) Tryz.func30 lf k! (.inr rfl) ev k! (aN O6 k!) k!) aw ⟨BT,zS,by omega⟩ (P:=fun hh=>lC h hh [(aj true),(aa du),(aa dx),(aa dy),(aa dz),aW,(ag ((aq X).length)),(aj false),(aa qP),(aa qQ),(aa qR),(aa qS),fH,(ag ((aq D).length))] true X D) w fun v=>(lC.mk (z1.fit (Nat.le_refl _) (gp (a:=(bz true du dx dy dz aW ((aq X).length))) (b:=(bz false qP qQ qR qS fH ((aq D).length))) (iW v)).1) (z2.fit (Nat.le_refl _) (gp (a:=(bz true du dx dy dz aW ((aq X).length))) (b:=(bz false qP qQ qR qS fH ((aq D).length))) (iW v)).2) rfl:lC h h [(aj true),(aa du),(aa dx),(aa dy),(aa dz),aW,(ag ((aq X).length)),(aj false),(aa qP),(aa qQ),(aa qR),(aa qS),fH,(ag ((aq D).length))] true X D)
               exact ⟨[(aj true),(aa du),(aa dx),(aa dy),(aa dz),aW,(ag ((aq X).length)),(aj false),(aa qP),(aa qQ),(aa qR),(aa qS),fH,(ag ((aq D).length))],hk,k1,k2,fun m X D hm=>by cases hm;exact k3,⟨_,_,_,_,_,_,_,_,_,_,_,_,_,_,rfl,LA,bsc⟩⟩
       · have g4:sp=false:=by simpa using f3
         have q5:sp=false:=d!
         obtain ⟨cx,h6,vL,jm,zx⟩:=dk (d:=d+10) hlX hdX aK
         have dh:=jm.y
         have GG:=jm.n
         rw[←hX] at zx
         obtain ⟨du,dx,dy,dz,aW,rfl,LA,xhc,xhf⟩:=id zx
         have dK:=aD.trans jm.a
         obtain ⟨h7,IK,eC,EV,rN,LC⟩:=de dh (ar.cells (au false 0 0 0 0 bE 0) 60 false)
         have eJ:=dK.trans LC
         have Cj:Has h6 h7:=LC
         have sc9:AV.scalar aW=true:=LA
         obtain ⟨h8,sW,eQ,BE,nI,gQ⟩:=b9 (t:=60) (n:=7) (i:=h6.nx) (L:=(bz false du dx dy dz aW ((aq X).length))) eC rN k! rfl rfl z!
         have jl:=Has.ak eJ gQ aw o!
         have yN:=Has.ak Cj gQ dh o!
         obtain ⟨lx,qD,dE,wU,qH,oQ⟩:=b9 (t:=60) (n:=7) (i:=h6.nx) (L:=(bz true du dx dy dz aW ((aq X).length))) eQ nI k! rfl rfl z!
         have dm:=Has.ak jl oQ aw o!
         have Ck:=Has.ak yN oQ dh o!
         have L0:(!sp)=true:=d!
         obtain ⟨ci,sZ,nA,fp,zi⟩:=JQ (d:=d+9) ((zx.grow Ck o!).sign (m':=true)).whole dE
         have dH:=fp.y
         have JR:=fp.n
         obtain ⟨SO,SP,SQ,SU,xH,rfl,isc,ihc,ihf⟩:=id zi
         have dV:=dm.trans fp.a
         have ou:=Ck.trans fp.a
         have adz:AV.scalar xH=true:=isc
         obtain ⟨tG,oe,fl,Ei,kJ,eh⟩:=b9 (t:=66) (n:=14) (i:=h.nx) (L:=[(aj true),(aa du),(aa dx),(aa dy),(aa dz),aW,(ag ((aq X).length)),(aj false),(aa SO),(aa SP),(aa SQ),(aa SU),xH,(ag ((aq 1).length))]) dH (fp.a _ _ (oQ _ _ o! (gQ _ _ o! (LC _ _ (jm.a _ _ aC))))) k! rfl rfl z!
         have gu:=Has.ak dV eh aw o!
         have ev:=nf (d+14) fj ((AV.str a)::aV 65) h .ret tG (r4_|>Rb q5|>Rb q5|>Rb q5|>Rb q4|>Rv (aL (a:=some aB) (b:=some (aj false)) q5)|>Rv (aL (a:=some (aj true)) (b:=some (aj false)) q4)|>Rf|>Rc|>Re vL|>Ra IK (fun i=>(AV.ptr i 0))|>Rs sW|>Rc|>Rb q3|>Rm (aJ 60 0 (AV.agg (bz false du dx dy dz aW ((aq X).length))) nI k!)|>Re (show (aQ (d+14)) (.fn 22) [(AV.agg (bz false du dx dy dz aW ((aq X).length)))] h8= .ret (AV.agg (bz true du dx dy dz aW ((aq X).length))) h8 from (afe (d:=d+13) (zx.grow yN o!).whole eQ ajp))|>Rs qD|>Rn 2|>Rb L0|>Rm (aJ 60 0 (AV.agg (bz true du dx dy dz aW ((aq X).length))) qH k!)|>Re nA|>Rs oe|>Rc) k!
         have e:jq a=some (true,X,1):=by rw[f_ ht hZ fW h_ ic E4 uj hX hD];simp [g1,g2,g3,g4]
         rw[e]
         have z1:=((((zx.grow ou o!).kept eh o! o!).sign (m':=true))).mono (h1:=h) o!
         have z2:=((zi.kept eh o! o!)).mono (h1:=h) o!
         have w:lC h tG _ true X 1:=lC.mk z1 z2 rfl
         obtain ⟨hk,k1,k2,k3⟩:=aU rfl (cK (a:=2) (b:=3) (t:=66) (v:= .agg [(aj true),(aa du),(aa dx),(aa dy),(aa dz),aW,(ag ((aq X).length)),(aj false),(aa SO),(aa SP),(aa SQ),(aa SU),xH,(ag ((aq 1).length))]) (w:= .bool true) Tryz.func30 lf k! (.inr rfl) ev k! (aN kJ k!) k!) aw ⟨fl,gu,by omega⟩ (P:=fun hh=>lC h hh [(aj true),(aa du),(aa dx),(aa dy),(aa dz),aW,(ag ((aq X).length)),(aj false),(aa SO),(aa SP),(aa SQ),(aa SU),xH,(ag ((aq 1).length))] true X 1) w fun v=>(lC.mk (z1.fit (Nat.le_refl _) (gp (a:=(bz true du dx dy dz aW ((aq X).length))) (b:=(bz false SO SP SQ SU xH ((aq 1).length))) (iW v)).1) (z2.fit (Nat.le_refl _) (gp (a:=(bz true du dx dy dz aW ((aq X).length))) (b:=(bz false SO SP SQ SU xH ((aq 1).length))) (iW v)).2) rfl:lC h h [(aj true),(aa du),(aa dx),(aa dy),(aa dz),aW,(ag ((aq X).length)),(aj false),(aa SO),(aa SP),(aa SQ),(aa SU),xH,(ag ((aq 1).length))] true X 1)
         exact ⟨[(aj true),(aa du),(aa dx),(aa dy),(aa dz),aW,(ag ((aq X).length)),(aj false),(aa SO),(aa SP),(aa SQ),(aa SU),xH,(ag ((aq 1).length))],hk,k1,k2,fun m X D hm=>by cases hm;exact k3,⟨_,_,_,_,_,_,_,_,_,_,_,_,_,_,rfl,LA,isc⟩⟩
   · have g2:ng=false:=f1
     have q3:ng=false:=d!
     have r8_:=r2_|>Rb q3|>Rb q3|>Rb q2|>Rv (aL (a:=some aB) (b:=some (aj false)) q3)|>Rv (aL (a:=some (aj true)) (b:=some (aj false)) q2)|>Rc|>Rf|>Rc|>Rf|>Rc
     rcases Bool.eq_false_or_eq_true sp with f2 | f2
     · have g4:sp=true:=by simpa using f2
       have q4:sp=true:=d!
       have r9_:=r8_|>Rb q4|>Rc|>Rb q4|>Re (show (aQ (d+14)) (.fn 55) [(AV.str be)] h1= .ret (aj p2) h1 from (by rw[uj];exact Lw (d:=d+12) ajo aK))|>Rb q4|>Rc|>Rf|>Rv (aG (a:=some (aj (!p2))) (b:=some (aj false)) q4)|>Rc
       rcases Bool.eq_false_or_eq_true (!p2) with f3 | f3
       · have g5:p2=false:=by simpa using f3
         have q5:(!p2)=true:=d!
         obtain ⟨h6,AD,dh,wP,j9,qv⟩:=b9 (t:=66) (n:=14) (i:=h.nx) (L:=[(aj false),(aa 0),(aa 0),(aa 0),(aa 0),bE,(af 0),(aj false),(aa 0),(aa 0),(aa 0),(aa 0),bE,(af 0)]) aK aC k! rfl rfl z!
         have dK:=Has.ak aD qv aw o!
         have ev:=nf (d+14) fj ((AV.str a)::aV 65) h .ret h6 (r9_|>Rb q5|>Rc|>Rs AD|>Rc) k!
         have e:jq a=none:=by rw[f_ ht hZ fW h_ ic E4 uj hX hD];simp [g1,g2,g4,g5]
         rw[e]
         obtain ⟨hk,k1,k2,k3⟩:=aU rfl (cK (a:=2) (b:=3) (t:=66) (v:= .agg [(aj false),(aa 0),(aa 0),(aa 0),(aa 0),bE,(af 0),(aj false),(aa 0),(aa 0),(aa 0),(aa 0),bE,(af 0)]) (w:= .bool false) Tryz.func30 lf k! (.inr rfl) ev k! (aN j9 k!) k!) aw ⟨dh,dK,by omega⟩ (P:=fun hh=>∀m X D,(none:Option (Bool×Nat×Nat))=some (m,X,D)→lC h hh [(aj false),(aa 0),(aa 0),(aa 0),(aa 0),bE,(af 0),(aj false),(aa 0),(aa 0),(aa 0),(aa 0),bE,(af 0)] m X D) (fun m X D hm=>by cases hm) fun v=>(fun m X D hm=>by cases hm)
         exact ⟨[(aj false),(aa 0),(aa 0),(aa 0),(aa 0),bE,(af 0),(aj false),(aa 0),(aa 0),(aa 0),(aa 0),bE,(af 0)],hk,k1,k2,k3,⟨_,_,_,_,_,_,_,_,_,_,_,_,_,_,rfl,rfl,rfl⟩⟩
       · have g5:p2=true:=by simpa using f3
         have hlD:=yL (uj.symm.trans g5)
         have hdD:=rj (uj.symm.trans g5)
         have hwD:=Dy hD (uj.symm.trans g5)
         have q5:(!p2)=false:=d!
         obtain ⟨cx,h6,vL,jm,zx⟩:=dk (d:=d+10) hlX hdX aK
         have dh:=jm.y
         have GG:=jm.n
         rw[←hX] at zx
         obtain ⟨du,dx,dy,dz,aW,rfl,LA,xhc,xhf⟩:=id zx
         have dK:=aD.trans jm.a
         obtain ⟨h7,IK,eC,EV,rN,LC⟩:=de dh (ar.cells (au false 0 0 0 0 bE 0) 60 false)
         have eJ:=dK.trans LC
         have Cj:Has h6 h7:=LC
         have sc9:AV.scalar aW=true:=LA
         obtain ⟨h8,sW,eQ,BE,nI,gQ⟩:=b9 (t:=60) (n:=7) (i:=h6.nx) (L:=(bz false du dx dy dz aW ((aq X).length))) eC rN k! rfl rfl z!
         have jl:=Has.ak eJ gQ aw o!
         have yN:=Has.ak Cj gQ dh o!
         have Dj:(!sp)=false:=d!
         obtain ⟨cb,ki,j0,cu,zb⟩:=dk (d:=d+10) hlD hdD eQ
         have cS:=cu.y
         have B7:=cu.n
         rw[←hD] at zb
         obtain ⟨qP,qQ,qR,qS,fH,rfl,bsc,bhc,bhf⟩:=id zb
         have cP:=jl.trans cu.a
         have aa2:=yN.trans cu.a
         obtain ⟨sZ,HL,dH,vr,gS,mg⟩:=de cS (ar.cells (au false 0 0 0 0 bE 0) 60 false)
         have dV:=cP.trans mg
         have ou:=aa2.trans mg
         have jh:Has ki sZ:=mg
         have adz:AV.scalar fH=true:=bsc
         obtain ⟨tG,oe,fl,Ei,kJ,eh⟩:=b9 (t:=60) (n:=7) (i:=ki.nx) (L:=(bz false qP qQ qR qS fH ((aq D).length))) dH gS k! rfl rfl z!
         have gu:=Has.ak dV eh aw o!
         have aa3:=Has.ak ou eh dh o!
         have f':=Has.ak jh eh cS o!
         obtain ⟨co,vJ,JS,iG,zo⟩:=uN (d:=d+10) (k:=1) o! fl
         have iP:=iG.y
         have aff:=iG.n
         obtain ⟨QA,QB,QC,QD,s5,rfl,osc,ohc,ohf⟩:=id zo
         have jv:=gu.trans iG.a
         have PG:=aa3.trans iG.a
         have DA:=f'.trans iG.a
         have c16:AV.same 20 (AV.agg (bz false qP qQ qR qS fH ((aq D).length))) (AV.agg (bz false qP qQ qR qS fH ((aq D).length)))=true:=zb.whole.same
         have HM:=r9_|>Rb q5|>Rc|>Re vL|>Ra IK (fun i=>(AV.ptr i 0))|>Rs sW|>Rc|>Rb q3|>Rn 2|>Rb Dj|>Rc|>Re j0|>Ra HL (fun i=>(AV.ptr i 0))|>Rs oe|>Rm (aJ 60 0 (AV.agg (bz false qP qQ qR qS fH ((aq D).length))) kJ k!)|>Re JS|>Re (show (aQ (d+14)) (.fn 57) [(AV.agg (bz false qP qQ qR qS fH ((aq D).length))),(AV.agg (bz false QA QB QC QD s5 ((aq 1).length)))] vJ= .ret (af cz) vJ from (by rw[hcz];exact JP (d:=d+12) (zb.grow DA o!).whole zo.whole iP (Nat.zero_le _)))|>Rv (yV 3 false true .i64 cz 0)|>Rh (aJ 60 0 (AV.agg (bz false qP qQ qR qS fH ((aq D).length))) kJ k!)|>Rh c16|>Rh (aJ 60 0 (AV.agg (bz false qP qQ qR qS fH ((aq D).length))) (iG.a _ _ kJ) k!)|>Rh c16
         rcases Bool.eq_false_or_eq_true (decide (cz≤0)) with f4 | f4
         · have g6:D≤1:=(UD hcz).1 (of_decide_eq_true f4)
           have q17:(decide (cz≤0))=true:=d!
           obtain ⟨h18,Pb,xk,aeW,Pc,xm⟩:=b9 (t:=66) (n:=14) (i:=h.nx) (L:=[(aj false),(aa 0),(aa 0),(aa 0),(aa 0),bE,(af 0),(aj false),(aa 0),(aa 0),(aa 0),(aa 0),bE,(af 0)]) iP (iG.a _ _ (eh _ _ o! (mg _ _ (cu.a _ _ (gQ _ _ o! (LC _ _ (jm.a _ _ aC))))))) k! rfl rfl z!
           have zU:=Has.ak jv xm aw o!
           have ev:=nf (d+14) fj ((AV.str a)::aV 65) h .ret h18 (HM|>Rb q17|>Rc|>Rs Pb|>Rc) k!
           have e:jq a=none:=by rw[f_ ht hZ fW h_ ic E4 uj hX hD];simp [g1,g2,g4,g5,g6]
           rw[e]
           obtain ⟨hk,k1,k2,k3⟩:=aU rfl (cK (a:=2) (b:=3) (t:=66) (v:= .agg [(aj false),(aa 0),(aa 0),(aa 0),(aa 0),bE,(af 0),(aj false),(aa 0),(aa 0),(aa 0),(aa 0),bE,(af 0)]) (w:= .bool false) Tryz.func30 lf k! (.inr rfl) ev k! (aN Pc k!) k!) aw ⟨xk,zU,by omega⟩ (P:=fun hh=>∀m X D,(none:Option (Bool×Nat×Nat))=some (m,X,D)→lC h hh [(aj false),(aa 0),(aa 0),(aa 0),(aa 0),bE,(af 0),(aj false),(aa 0),(aa 0),(aa 0),(aa 0),bE,(af 0)] m X D) (fun m X D hm=>by cases hm) fun v=>(fun m X D hm=>by cases hm)
           exact ⟨[(aj false),(aa 0),(aa 0),(aa 0),(aa 0),bE,(af 0),(aj false),(aa 0),(aa 0),(aa 0),(aa 0),bE,(af 0)],hk,k1,k2,k3,⟨_,_,_,_,_,_,_,_,_,_,_,_,_,_,rfl,rfl,rfl⟩⟩
         · have g6:¬D≤1:=fun e0=>absurd ((UD hcz).2 e0) (of_decide_eq_false f4)
           have q17:(decide (cz≤0))=false:=d!
           obtain ⟨cg,h18,aa4,nB,wg⟩:=B6 (d:=d+5) ((zx.grow PG o!).sign (m':=false)).whole (zb.grow DA o!).whole hwX hwD iP
           have xk:=nB.y
           have ajs:=nB.n
           obtain ⟨Qr,Qs,Qu,Qv,Qw,vM,rfl,gsc,gwf,gc⟩:=id wg
           have zU:=jv.trans nB.a
           have aa5:=PG.trans nB.a
           have Wg:=DA.trans nB.a
           have HN:=HM|>Rb q17|>Rm (aJ 60 0 (AV.agg (bz false du dx dy dz aW ((aq X).length))) (iG.a _ _ (eh _ _ o! (mg _ _ (cu.a _ _ nI)))) k!)|>Rm (aJ 60 0 (AV.agg (bz false qP qQ qR qS fH ((aq D).length))) (iG.a _ _ kJ) k!)|>Re aa4|>Re (show (aQ (d+14)) (.fn 47) [(AV.agg (au false Qr Qs Qu Qv vM Qw))] h18= .ret (aj io) h18 from (by rw[L1];exact jw (d:=d+12) wg xk (Nat.zero_le _)))|>Rc
           rcases Bool.eq_false_or_eq_true (!io) with f5 | f5
           · have g7:¬Nat.gcd X D=1:=fun e0=>by rw[L1,e0,eK (n:=1) (by decide) (by decide)] at f5;cases f5
             have Lx:(!io)=true:=d!
             obtain ⟨Fq,tN,mO,JC,sq,nO⟩:=b9 (t:=66) (n:=14) (i:=h.nx) (L:=[(aj false),(aa 0),(aa 0),(aa 0),(aa 0),bE,(af 0),(aj false),(aa 0),(aa 0),(aa 0),(aa 0),bE,(af 0)]) xk (nB.a _ _ (iG.a _ _ (eh _ _ o! (mg _ _ (cu.a _ _ (gQ _ _ o! (LC _ _ (jm.a _ _ aC)))))))) k! rfl rfl z!
             have mP:=Has.ak zU nO aw o!
             have ev:=nf (d+14) fj ((AV.str a)::aV 65) h .ret Fq (HN|>Rb Lx|>Rc|>Rs tN|>Rc) k!
             have e:jq a=none:=by rw[f_ ht hZ fW h_ ic E4 uj hX hD];simp [g1,g2,g4,g5,g6,g7]
             rw[e]
             obtain ⟨hk,k1,k2,k3⟩:=aU rfl (cK (a:=2) (b:=3) (t:=66) (v:= .agg [(aj false),(aa 0),(aa 0),(aa 0),(aa 0),bE,(af 0),(aj false),(aa 0),(aa 0),(aa 0),(aa 0),bE,(af 0)]) (w:= .bool false) Tryz.func30 lf k! (.inr rfl) ev k! (aN sq k!) k!) aw ⟨mO,mP,by omega⟩ (P:=fun hh=>∀m X D,(none:Option (Bool×Nat×Nat))=some (m,X,D)→lC h hh [(aj false),(aa 0),(aa 0),(aa 0),(aa 0),bE,(af 0),(aj false),(aa 0),(aa 0),(aa 0),(aa 0),bE,(af 0)] m X D) (fun m X D hm=>by cases hm) fun v=>(fun m X D hm=>by cases hm)
             exact ⟨[(aj false),(aa 0),(aa 0),(aa 0),(aa 0),bE,(af 0),(aj false),(aa 0),(aa 0),(aa 0),(aa 0),bE,(af 0)],hk,k1,k2,k3,⟨_,_,_,_,_,_,_,_,_,_,_,_,_,_,rfl,rfl,rfl⟩⟩
           · have g7:Nat.gcd X D=1:=by rw[L1] at f5;simp at f5;exact UC f5
             have Lx:(!io)=false:=d!
             obtain ⟨Fq,tN,mO,JC,sq,nO⟩:=b9 (t:=66) (n:=14) (i:=h.nx) (L:=[(aj false),(aa du),(aa dx),(aa dy),(aa dz),aW,(ag ((aq X).length)),(aj false),(aa qP),(aa qQ),(aa qR),(aa qS),fH,(ag ((aq D).length))]) xk (nB.a _ _ (iG.a _ _ (eh _ _ o! (mg _ _ (cu.a _ _ (gQ _ _ o! (LC _ _ (jm.a _ _ aC)))))))) k! rfl rfl z!
             have mP:=Has.ak zU nO aw o!
             have ev:=nf (d+14) fj ((AV.str a)::aV 65) h .ret Fq (HN|>Rb Lx|>Rm (aJ 60 0 (AV.agg (bz false du dx dy dz aW ((aq X).length))) (nB.a _ _ (iG.a _ _ (eh _ _ o! (mg _ _ (cu.a _ _ nI))))) k!)|>Rm (aJ 60 0 (AV.agg (bz false qP qQ qR qS fH ((aq D).length))) (nB.a _ _ (iG.a _ _ kJ)) k!)|>Rc|>Rs tN|>Rc) k!
             have e:jq a=some (false,X,D):=by rw[f_ ht hZ fW h_ ic E4 uj hX hD];simp [g1,g2,g4,g5,g6,g7]
             rw[e]
             have z1:=((((zx.grow aa5 o!).kept nO o! o!).sign (m':=false))).mono (h1:=h) o!
             have z2:=(((zb.grow Wg o!).kept nO o! o!)).mono (h1:=h) o!
             have w:lC h Fq _ false X D:=lC.mk z1 z2 rfl
             obtain ⟨hk,k1,k2,k3⟩:=aU rfl (cK (a:=2) (b:=3) (t:=66) (v:= .agg [(aj false),(aa du),(aa dx),(aa dy),(aa dz),aW,(ag ((aq X).length)),(aj false),(aa qP),(aa qQ),(aa qR),(aa qS),fH,(ag ((aq D).length))]) (w:= .bool true) Tryz.func30 lf k! (.inr rfl) ev k! (aN sq k!) k!) aw ⟨mO,mP,by omega⟩ (P:=fun hh=>lC h hh [(aj false),(aa du),(aa dx),(aa dy),(aa dz),aW,(ag ((aq X).length)),(aj false),(aa qP),(aa qQ),(aa qR),(aa qS),fH,(ag ((aq D).length))] false X D) w fun v=>(lC.mk (z1.fit (Nat.le_refl _) (gp (a:=(bz false du dx dy dz aW ((aq X).length))) (b:=(bz false qP qQ qR qS fH ((aq D).length))) (iW v)).1) (z2.fit (Nat.le_refl _) (gp (a:=(bz false du dx dy dz aW ((aq X).length))) (b:=(bz false qP qQ qR qS fH ((aq D).length))) (iW v)).2) rfl:lC h h [(aj false),(aa du),(aa dx),(aa dy),(aa dz),aW,(ag ((aq X).length)),(aj false),(aa qP),(aa qQ),(aa qR),(aa qS),fH,(ag ((aq D).length))] false X D)
             exact ⟨[(aj false),(aa du),(aa dx),(aa dy),(aa dz),aW,(ag ((aq X).length)),(aj false),(aa qP),(aa qQ),(aa qR),(aa qS),fH,(ag ((aq D).length))],hk,k1,k2,fun m X D hm=>by cases hm;exact k3,⟨_,_,_,_,_,_,_,_,_,_,_,_,_,_,rfl,LA,bsc⟩⟩
     · have g4:sp=false:=by simpa using f2
       have q4:sp=false:=d!
       obtain ⟨cx,h5,pD,g_,zx⟩:=dk (d:=d+10) hlX hdX aK
       have fA:=g_.y
       have V7:=g_.n
       rw[←hX] at zx
       obtain ⟨du,dx,dy,dz,aW,rfl,LA,xhc,xhf⟩:=id zx
       have ep:=aD.trans g_.a
       obtain ⟨h6,uY,dh,wP,j9,gT⟩:=de fA (ar.cells (au false 0 0 0 0 bE 0) 60 false)
       have dK:=ep.trans gT
       have sm:Has h5 h6:=gT
       have sc8:AV.scalar aW=true:=LA
       obtain ⟨h7,AF,eC,EV,rN,iQ⟩:=b9 (t:=60) (n:=7) (i:=h5.nx) (L:=(bz false du dx dy dz aW ((aq X).length))) dh j9 k! rfl rfl z!
       have eJ:=Has.ak dK iQ aw o!
       have so:=Has.ak sm iQ fA o!
       have q9:(!sp)=true:=d!
       obtain ⟨ci,lx,oh,cJ,zi⟩:=JQ (d:=d+9) ((zx.grow so o!).sign (m':=false)).whole eC
       have dE:=cJ.y
       have Ep:=cJ.n
       obtain ⟨SO,SP,SQ,SU,xH,rfl,isc,ihc,ihf⟩:=id zi
       have dm:=eJ.trans cJ.a
       have Hl:=so.trans cJ.a
       have adb:AV.scalar xH=true:=isc
       obtain ⟨ki,tL,cS,xa,iD,g8⟩:=b9 (t:=66) (n:=14) (i:=h.nx) (L:=[(aj false),(aa du),(aa dx),(aa dy),(aa dz),aW,(ag ((aq X).length)),(aj false),(aa SO),(aa SP),(aa SQ),(aa SU),xH,(ag ((aq 1).length))]) dE (cJ.a _ _ (iQ _ _ o! (gT _ _ (g_.a _ _ aC)))) k! rfl rfl z!
       have cP:=Has.ak dm g8 aw o!
       have ev:=nf (d+14) fj ((AV.str a)::aV 65) h .ret ki (r8_|>Rb q4|>Rb q4|>Rb q4|>Rf|>Rv (aL (a:=some aB) (b:=some (aj false)) q4)|>Rc|>Rf|>Rc|>Re pD|>Ra uY (fun i=>(AV.ptr i 0))|>Rs AF|>Rc|>Rb q3|>Rn 2|>Rb q9|>Rm (aJ 60 0 (AV.agg (bz false du dx dy dz aW ((aq X).length))) rN k!)|>Re oh|>Rs tL|>Rc) k!
       have e:jq a=some (false,X,1):=by rw[f_ ht hZ fW h_ ic E4 uj hX hD];simp [g1,g2,g4]
       rw[e]
       have z1:=((((zx.grow Hl o!).kept g8 o! o!).sign (m':=false))).mono (h1:=h) o!
       have z2:=((zi.kept g8 o! o!)).mono (h1:=h) o!
       have w:lC h ki _ false X 1:=lC.mk z1 z2 rfl
       obtain ⟨hk,k1,k2,k3⟩:=aU rfl (cK (a:=2) (b:=3) (t:=66) (v:= .agg [(aj false),(aa du),(aa dx),(aa dy),(aa dz),aW,(ag ((aq X).length)),(aj false),(aa SO),(aa SP),(aa SQ),(aa SU),xH,(ag ((aq 1).length))]) (w:= .bool true) Tryz.func30 lf k! (.inr rfl) ev k! (aN iD k!) k!) aw ⟨cS,cP,by omega⟩ (P:=fun hh=>lC h hh [(aj false),(aa du),(aa dx),(aa dy),(aa dz),aW,(ag ((aq X).length)),(aj false),(aa SO),(aa SP),(aa SQ),(aa SU),xH,(ag ((aq 1).length))] false X 1) w fun v=>(lC.mk (z1.fit (Nat.le_refl _) (gp (a:=(bz false du dx dy dz aW ((aq X).length))) (b:=(bz false SO SP SQ SU xH ((aq 1).length))) (iW v)).1) (z2.fit (Nat.le_refl _) (gp (a:=(bz false du dx dy dz aW ((aq X).length))) (b:=(bz false SO SP SQ SU xH ((aq 1).length))) (iW v)).2) rfl:lC h h [(aj false),(aa du),(aa dx),(aa dy),(aa dz),aW,(ag ((aq X).length)),(aj false),(aa SO),(aa SP),(aa SQ),(aa SU),xH,(ag ((aq 1).length))] false X 1)
       exact ⟨[(aj false),(aa du),(aa dx),(aa dy),(aa dz),aW,(ag ((aq X).length)),(aj false),(aa SO),(aa SP),(aa SQ),(aa SU),xH,(ag ((aq 1).length))],hk,k1,k2,fun m X D hm=>by cases hm;exact k3,⟨_,_,_,_,_,_,_,_,_,_,_,_,_,_,rfl,LA,isc⟩⟩
end Go.Proofs.aF
