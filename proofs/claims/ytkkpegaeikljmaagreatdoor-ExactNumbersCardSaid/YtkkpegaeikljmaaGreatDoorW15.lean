import Derived.Test.YtkkpegaeikljmaaGreatDoorA6
import Derived.Test.YtkkpegaeikljmaaGreatDoorW0
import Derived.Test.YtkkpegaeikljmaaGreatDoorEnv
import Derived.Test.YtkkpegaeikljmaaGreatDoorW14
namespace Go.Proofs.aF
open Go.Proofs Ab
set_option maxRecDepth 100000
set_option maxHeartbeats 4000000
set_option linter.unusedVariables false
set_option linter.unusedSimpArgs false
noncomputable def cA:Code:=(Tryz.f6.body).getD .skip
theorem fU:Tryz.f6.body=some cA:=by kernel_rfl
theorem abo {d:Nat} {h:ah} {s:List UInt8} (hs:s.length<2^60):aQ (d+1) (.fn 25) [.str s,.int .u8 46] h= .ret (.tuple [.str (cutAt 46 s).1,.str (cutAt 46 s).2.1,.bool (cutAt 46 s).2.2]) h:=by
 have:=aaR (d:=d) (h:=h) (s:=s) (b:=46) hs
 exact this
theorem HW {a b:List UInt8} (ha:jy (cL a)) (hb:jy (cL b)):jy (cL (a++b)):=fun c hc=>by
 rw[cL,List.map_append,List.mem_append] at hc
 exact hc.elim (ha c) (hb c)
theorem abp (n:Nat):(nW (10^n)).length≤n+1:=jS (by
 have h1:(10:Nat)^n<10^(n+1):=Nat.pow_lt_pow_right (by decide) (Nat.lt_succ_self _)
 exact Nat.lt_of_lt_of_le h1 (Nat.pow_le_pow_left (by decide) _))
def pc (ng:Bool) (A D:Nat):List UInt8:=eT (ng&&decide (A≠0)) (A/Nat.gcd A D) (D/Nat.gcd A D)
theorem ub {ng c mq:Bool} {A D:Nat} {tx:List UInt8} (nQ:(c&&decide (A≠0))=mq) (hc:c=ng) (s6:tx=eT mq (A/Nat.gcd A D) (D/Nat.gcd A D)):pc ng A D=tx:=by
 subst nQ hc s6;rfl
def dJ (s:List UInt8):List UInt8×Nat:=
 if (cutAt 47 (aH s)).2.2=true then
  if nu (cutAt 47 (aH s)).1=true then
   if nu (cutAt 47 (aH s)).2.1=true then
    if bJ (cL (cutAt 47 (aH s)).2.1)=0 then ([],7) else (pc (decide (s.head?=some 45)) (bJ (cL (cutAt 47 (aH s)).1)) (bJ (cL (cutAt 47 (aH s)).2.1)),0)
   else ([],4)
  else ([],4)
 else if (cutAt 46 (aH s)).2.2=true then
  if nu (cutAt 46 (aH s)).1=true then
   if nu (cutAt 46 (aH s)).2.1=true then (pc (decide (s.head?=some 45)) (bJ (cL ((cutAt 46 (aH s)).1++(cutAt 46 (aH s)).2.1))) (10^(cutAt 46 (aH s)).2.1.length),0)
   else ([],4)
  else ([],4)
 else if nu (aH s)=true then (pc (decide (s.head?=some 45)) (bJ (cL (aH s))) 1,0) else ([],4)
theorem bF {s ab be wh pt:List UInt8} {sp dc da db dw dp dt ng:Bool} {A1 B W T1:Nat} (fW:ab=(cutAt 47 (aH s)).1) (h_:be=(cutAt 47 (aH s)).2.1) (ic:sp=(cutAt 47 (aH s)).2.2) (rQ:wh=(cutAt 46 (aH s)).1) (rR:pt=(cutAt 46 (aH s)).2.1) (sy:dc=(cutAt 46 (aH s)).2.2) (jL:da=nu ab) (kj:db=nu be) (sB:dw=nu wh) (sC:dp=nu pt) (oW:dt=nu (aH s)) (hZ:ng=decide (s.head?=some 45)) (pe:A1=bJ (cL ab)) (hB:B=bJ (cL be)) (hW:W=bJ (cL (wh++pt))) (s7:T1=bJ (cL (aH s))):
 dJ s=if sp=true then (if da=true then (if db=true then (if B=0 then ([],7) else (pc ng A1 B,0)) else ([],4)) else ([],4)) else if dc=true then (if dw=true then (if dp=true then (pc ng W (10^pt.length),0) else ([],4)) else ([],4)) else if dt=true then (pc ng T1 1,0) else ([],4):=by
 subst pe hB hW s7 jL kj sB sC oW fW h_ ic rQ rR sy hZ
 rfl
theorem adG {d:Nat} {h:ah} {s:List UInt8} (hs:s.length≤20000) (aw:Tidy h):aQ (d+8) (.fn 6) [.str s] h= .ret (.tuple [.str (dJ s).1,.int .i64 (((dJ s).2:Nat):Int)]) h:=by
 obtain ⟨ab,fW⟩:∃ab,ab=(cutAt 47 (aH s)).1:=⟨_,rfl⟩
 obtain ⟨be,h_⟩:∃be,be=(cutAt 47 (aH s)).2.1:=⟨_,rfl⟩
 obtain ⟨sp,ic⟩:∃sp,sp=(cutAt 47 (aH s)).2.2:=⟨_,rfl⟩
 obtain ⟨wh,rQ⟩:∃wh,wh=(cutAt 46 (aH s)).1:=⟨_,rfl⟩
 obtain ⟨pt,rR⟩:∃pt,pt=(cutAt 46 (aH s)).2.1:=⟨_,rfl⟩
 obtain ⟨dc,sy⟩:∃dc,dc=(cutAt 46 (aH s)).2.2:=⟨_,rfl⟩
 have hlu:(aH s).length≤s.length:=by unfold aH;split<;>simp
 obtain ⟨l1,l2⟩:=jT 47 (aH s)
 rw[←fW] at l1
 rw[←h_] at l2
 obtain ⟨l3,l4⟩:=jT 46 (aH s)
 rw[←rQ] at l3
 rw[←rR] at l4
 obtain ⟨da,jL⟩:∃da,da=nu ab:=⟨_,rfl⟩
 obtain ⟨db,kj⟩:∃db,db=nu be:=⟨_,rfl⟩
 obtain ⟨dw,sB⟩:∃dw,dw=nu wh:=⟨_,rfl⟩
 obtain ⟨dp,sC⟩:∃dp,dp=nu pt:=⟨_,rfl⟩
 obtain ⟨dt,oW⟩:∃dt,dt=nu (aH s):=⟨_,rfl⟩
 have kDa:∀hh,aQ (d+7) (.fn 26) [.str ab] hh= .ret (.bool da) hh:=fun hh=>by rw[jL];exact jg (d:=d+6) o!
 have kDb:∀hh,aQ (d+7) (.fn 26) [.str be] hh= .ret (.bool db) hh:=fun hh=>by rw[kj];exact jg (d:=d+6) o!
 have kDw:∀hh,aQ (d+7) (.fn 26) [.str wh] hh= .ret (.bool dw) hh:=fun hh=>by rw[sB];exact jg (d:=d+6) o!
 have kDp:∀hh,aQ (d+7) (.fn 26) [.str pt] hh= .ret (.bool dp) hh:=fun hh=>by rw[sC];exact jg (d:=d+6) o!
 obtain ⟨ng,hZ⟩:∃ng,ng=decide (s.head?=some 45):=⟨_,rfl⟩
 obtain ⟨A1,pe⟩:∃A1,A1=bJ (cL ab):=⟨_,rfl⟩
 obtain ⟨B,hB⟩:∃B,B=bJ (cL be):=⟨_,rfl⟩
 obtain ⟨W,hW⟩:∃W,W=bJ (cL (wh++pt)):=⟨_,rfl⟩
 obtain ⟨T1,s7⟩:∃T1,T1=bJ (cL (aH s)):=⟨_,rfl⟩
 by_cases q:s=[]
 · have A5:aH s=s:=by rw[q];rfl
   have g1:(!decide (s=[]))=false:=by rw[decide_eq_true q];rfl
   have g2:sp=false:=by rw[ic,q];rfl
   have g4:dc=false:=by rw[sy,q];rfl
   have g5':dt=false:=by rw[oW,q];rfl
   have g5:(!dt)=true:=by rw[g5'];rfl
   have kC:∀hh,aQ (d+7) (.fn 25) [.str s,.int .u8 47] hh= .ret (.tuple [.str ab,.str be,.bool sp]) hh:=fun hh=>by
    rw[fW,h_,ic,A5]
    exact JY (d:=d+6) o!
   have kE:∀hh,aQ (d+7) (.fn 25) [.str s,.int .u8 46] hh= .ret (.tuple [.str wh,.str pt,.bool dc]) hh:=fun hh=>by
    rw[rQ,rR,sy,A5]
    exact abo (d:=d+6) o!
   have kDt:∀hh,aQ (d+7) (.fn 26) [.str s] hh= .ret (.bool dt) hh:=fun hh=>by
    rw[oW,A5]
    exact jg (d:=d+6) o!
   have eR:dJ s=([],4):=by rw[bF fW h_ ic rQ rR sy jL kj sB sC oW hZ pe hB hW s7,g2,g4,g5'];rfl
   rw[eR]
   have q1:(!decide (s=[]))=false:=d!
   have HX:=kC h
   have HY:=kE h
   have q2:sp=false:=d!
   have q3:(!sp)=true:=d!
   have q4:dc=false:=d!
   have q5:(!dc)=true:=d!
   have J0:=kDt h
   have q6:(!dt)=true:=d!
   have ev:=pk (d+7) cA ((AV.str s)::aV 127) h .ret h (CN 3<|VV (VF 9 false true s [])<|CC<|BB q1<|BB q1<|BB q1<|VV (aL (a:=some aB) (b:=some (aj false)) q1)<|CN 2<|FF<|CC<|EE HX<|CN 8<|EE HY<|CN 9<|BB q2<|BB q2<|BB q2<|BB q2<|BB q2<|VV (aL (a:=some aB) (b:=some (aj false)) q2)<|CC<|FF<|CC<|FF<|CC<|FF<|CC<|BB q3<|CC<|FF<|VV (aG (a:=some (aj dc)) (b:=some (aj false)) q3)<|FF<|CC<|BB q4<|BB q4<|BB q4<|BB q4<|BB q4<|FF<|VV (aL (a:=some aB) (b:=some (aj false)) q4)<|CN 2<|FF<|CC<|FF<|CC<|FF<|CC<|BB q3<|CC<|BB q3<|CC<|FF<|VV (aG (a:=some (aj (!dc))) (b:=some (aj false)) q3)<|FF<|CC<|BB q5<|CC<|BB q5<|EE J0<|BB q5<|CC<|FF<|VV (aG (a:=some (aj (!dt))) (b:=some (aj false)) q5)<|CN 2<|BB q6<|CN 2<|ZZ) k!
   exact ai rfl (az Tryz.func6 fU k! (.inr rfl) ev k!) (Has.refl _) rfl
 have hsl:0<s.length:=List.length_pos_iff.2 q
 obtain ⟨c0,abl,ic0⟩:∃c0:Nat,decide (((c0:Nat):Int)=45)=decide (s.head?=some 45)∧pv env (some .string) (some (.str s)) (some (.int .i64 0))=some (.int .u8 (c0:Int)):=by
  cases s with
  | nil=>exact absurd rfl q
  | cons x r=>
   refine ⟨x.toNat,?_,u0 (s:=x::r) (j:=0) (by simp)⟩
   have:(((x.toNat:Nat):Int)=45)↔((x::r).head?=some 45):=by
    simp only[List.head?_cons,Option.some.injEq]
    constructor
    · intro e;exact UInt8.toNat_inj.1 (by show x.toNat=45;omega)
    · rintro rfl;rfl
   simp only[this]
 have Ih:decide ((c0:Int)=45)=ng:=by rw[hZ];exact abl
 clear abl
 have cR:(!decide (s=[]))=true:=by rw[decide_eq_false q];rfl
 obtain ⟨A,hAA⟩:∃A,A=bif sp then A1 else bif dc then W else T1:=⟨_,rfl⟩
 obtain ⟨D,Ft⟩:∃D,D=bif sp then B else bif dc then 10^pt.length else 1:=⟨_,rfl⟩
 obtain ⟨mq,nQ⟩:∃b,(decide (((c0:Nat):Int)=45)&&decide (A≠0))=b:=⟨_,rfl⟩
 obtain ⟨tx,s6⟩:∃tx,tx=eT mq (A/Nat.gcd A D) (D/Nat.gcd A D):=⟨_,rfl⟩
 have q1:(!decide (s=[]))=true:=d!
 have PE:=R0|>Rn 3|>Rv (VF 9 false true s [])|>Rc|>Rb q1|>Rc|>Rb q1|>Rv ic0|>Rb q1
 rcases Bool.eq_false_or_eq_true (decide ((c0:Int)=45)) with f1 | f1
 · have ru:ng=true:=by rw[←Ih];exact f1
   have A5:aH s=List.drop 1 s:=by rw[ru] at hZ;unfold aH;rw[if_pos (of_decide_eq_true hZ.symm)]
   have kC:∀hh,aQ (d+7) (.fn 25) [.str (List.drop 1 s),.int .u8 47] hh= .ret (.tuple [.str ab,.str be,.bool sp]) hh:=fun hh=>by rw[fW,h_,ic,A5];exact JY (d:=d+6) (by rw[List.length_drop];omega)
   have kE:∀hh,aQ (d+7) (.fn 25) [.str (List.drop 1 s),.int .u8 46] hh= .ret (.tuple [.str wh,.str pt,.bool dc]) hh:=fun hh=>by rw[rQ,rR,sy,A5];exact abo (d:=d+6) (by rw[List.length_drop];omega)
   have kDt:∀hh,aQ (d+7) (.fn 26) [.str (List.drop 1 s)] hh= .ret (.bool dt) hh:=fun hh=>by rw[oW,A5];exact jg (d:=d+6) (by rw[List.length_drop];omega)
   have q2:(decide ((c0:Int)=45))=true:=d!
   have sl3:aZ env 9 (AV.str s) (some (af 1)) (none) (none)=some (AV.str (List.drop 1 s)):=ln k! o! (by first | omega | (simp;omega))
   have HX:=kC h
   have HY:=kE h
   rcases Bool.eq_false_or_eq_true sp with f2 | f2
   · have cn:sp=true:=f2
     have q4:sp=true:=d!
     have PT:=kDa h
     rcases Bool.eq_false_or_eq_true (!da) with f3 | f3
     · have eV:da=false:=by simpa using f3
       have q5:(!da)=true:=d!
       have ev:=nf (d+7) cA ((AV.str s)::aV 127) h .ret h (PE|>Rv (bQ 5 false true .u8 (c0:Int) 45)|>Rv (aG (a:=some (aj (decide ((c0:Int)=45)))) (b:=some (aj false)) q1)|>Rn 2|>Rb q2|>Rc|>Rq sl3|>Rn 2|>Re HX|>Rn 8|>Re HY|>Rn 9|>Rb q4|>Rc|>Rb q4|>Re PT|>Rb q4|>Rc|>Rb q4|>Rc|>Rb q5|>Rb q5|>Rb q5|>Rb q4|>Rv (aG (a:=some (aj true)) (b:=some aB) q5)|>Rv (aG (a:=some (aj true)) (b:=some (aj false)) q4)|>Rc|>Rt|>Rt|>Rt|>Rt|>Rt|>Rt|>Rn 2|>Rt|>Rt|>Rt|>Rt|>Rt|>Rt|>Rn 2|>Rt|>Rn 2) k!
       have eR:dJ s=([],4):=by rw[bF fW h_ ic rQ rR sy jL kj sB sC oW hZ pe hB hW s7,cn,eV];rfl
       rw[eR]
       exact ai rfl (az Tryz.func6 fU k! (.inr rfl) ev k!) (Has.refl _) rfl
     · have eV:da=true:=by simpa using f3
       have CJ:=d_ (show nu ab=true by rw[←jL];exact eV)
       have q5:(!da)=false:=d!
       have UJ:=kDb h
       rcases Bool.eq_false_or_eq_true (!db) with f4 | f4
       · have jr:db=false:=by simpa using f4
         have q6:(!db)=true:=d!
         have ev:=nf (d+7) cA ((AV.str s)::aV 127) h .ret h (PE|>Rv (bQ 5 false true .u8 (c0:Int) 45)|>Rv (aG (a:=some (aj (decide ((c0:Int)=45)))) (b:=some (aj false)) q1)|>Rn 2|>Rb q2|>Rc|>Rq sl3|>Rn 2|>Re HX|>Rn 8|>Re HY|>Rn 9|>Rb q4|>Rc|>Rb q4|>Re PT|>Rb q4|>Rc|>Rb q4|>Rc|>Rb q5|>Rc|>Rb q5|>Re UJ|>Rb q5|>Rc|>Rb q4|>Rv (aL (a:=some (aj true)) (b:=some (aj (!db))) q5)|>Rv (aG (a:=some (aj (!db))) (b:=some (aj false)) q4)|>Rc|>Rb q6|>Rb q6|>Rb q6|>Rb q6|>Rb q6|>Rb q6|>Rv (aG (a:=some (aj true)) (b:=some aB) q6)|>Rc|>Rt|>Rt|>Rt|>Rt|>Rt|>Rt|>Rn 2|>Rt|>Rn 2) k!
         have eR:dJ s=([],4):=by rw[bF fW h_ ic rQ rR sy jL kj sB sC oW hZ pe hB hW s7,cn,eV,jr];rfl
         rw[eR]
         exact ai rfl (az Tryz.func6 fU k! (.inr rfl) ev k!) (Has.refl _) rfl
       · have jr:db=true:=by simpa using f4
         have LK:=d_ (show nu be=true by rw[←kj];exact jr)
         have oC:A=A1:=by rw[hAA,cn];rfl
         have oO:D=B:=by rw[Ft,cn];rfl
         have hA:A=bJ (cL ab):=by rw[oC];exact pe
         have hD:D=bJ (cL be):=by rw[oO];exact hB
         have lA1:=ke CJ hA
         have lD1:=ke LK hD
         have lA:(nW A).length<2^26:=by omega
         have lD:(nW D).length<2^26:=by omega
         have q6:(!db)=false:=d!
         have q7:(!sp)=false:=d!
         have u8:=fX 3 false false (List.length ab) (List.length be) o!
         have q9:(decide (50000<(((List.length ab)+(List.length be):Nat):Int)))=false:=d!
         obtain ⟨zd,lx,oh,cJ,zA,nwd⟩:=kf (d:=d+5) (h:=h) (s:=be) (by first | omega | (simp;omega)) LK aw
         have dE:=cJ.y
         have Ep:=cJ.n
         rw[←hD] at zA
         have dm:=cJ.a
         have r2_:=PE|>Rv (bQ 5 false true .u8 (c0:Int) 45)|>Rv (aG (a:=some (aj (decide ((c0:Int)=45)))) (b:=some (aj false)) q1)|>Rn 2|>Rb q2|>Rc|>Rq sl3|>Rn 2|>Re HX|>Rn 8|>Re HY|>Rn 9|>Rb q4|>Rc|>Rb q4|>Re PT|>Rb q4|>Rc|>Rb q4|>Rc|>Rb q5|>Rc|>Rb q5|>Re UJ|>Rb q5|>Rc|>Rb q4|>Rv (aL (a:=some (aj true)) (b:=some (aj (!db))) q5)|>Rv (aG (a:=some (aj (!db))) (b:=some (aj false)) q4)|>Rc|>Rb q6|>Rc|>Rb q6|>Rc|>Rb q6|>Rc|>Rb q7|>Rb q6|>Rv (aL (a:=some aB) (b:=some (aj false)) q7)|>Rb q6|>Rc|>Rf|>Rf|>Rf|>Rf|>Rf|>Rb q6|>Rc|>Rv (aL (a:=some (aj true)) (b:=some (aj false)) q6)|>Rc|>Rf|>Rc|>Rf|>Rc|>Rf|>Rc|>Rb q7|>Rb q7|>Rf|>Rv (aL (a:=some aB) (b:=some (aj false)) q7)|>Rf|>Rc|>Rf|>Rf|>Rf|>Rf|>Rn 3|>Rf|>Rn 2|>Rb q4|>Rc|>Rb q4|>Rc|>Rb q4|>Rc|>Rb q4|>Rc|>Rb q4|>Rv u8|>Rb q4|>Rv (bM 3 false true .i64 (((List.length ab)+(List.length be):Nat):Int) 50000)|>Rv (aG (a:=some (aj (decide (50000<(((List.length ab)+(List.length be):Nat):Int))))) (b:=some (aj false)) q4)|>Rc|>Rb q9|>Rc|>Rb q9|>Rc|>Rb q9|>Rc|>Rb q7|>Rb q7|>Rb q7|>Rb q7|>Rb q7|>Rb q7|>Rb q9|>Rv (aL (a:=some aB) (b:=some (aj false)) q7)|>Rv (aL (a:=some (aj true)) (b:=some (aj false)) q9)|>Rc|>Rf|>Rc|>Rb q4|>Rc|>Re oh|>Rn 2|>Rv (zA).len|>Rv (bQ 3 false true .i64 (((nW D).length:Nat):Int) 0)
         rcases Bool.eq_false_or_eq_true (decide ((((nW D).length:Nat):Int)=0)) with f6 | f6
         · have o8:D=0:=by have f8:=of_decide_eq_true f6;exact nM.1 (List.length_eq_zero_iff.1 o!)
           have L0:(decide ((((nW D).length:Nat):Int)=0))=true:=d!
           have ev:=nf (d+7) cA ((AV.str s)::aV 127) h .ret lx (r2_|>Rb L0|>Rn 2) k!
           have eR:dJ s=([],7):=by rw[bF fW h_ ic rQ rR sy jL kj sB sC oW hZ pe hB hW s7,cn,eV,jr,←oO,o8];rfl
           rw[eR]
           exact ai rfl (az Tryz.func6 fU k! (.inr rfl) ev k!) dm rfl
         · have o8:D≠0:=fun e=>by have f8:=of_decide_eq_false f6;rw[e,eO] at f8;simp at f8
           have LI:=Nat.lt_of_le_of_lt (dD (Nat.div_le_self A (Nat.gcd A D))) lA
           have LJ:=Nat.lt_of_le_of_lt (dD (Nat.div_le_self D (Nat.gcd A D))) lD
           have L0:(decide ((((nW D).length:Nat):Int)=0))=false:=d!
           obtain ⟨zu,sZ,nA,fp,Cs,Wr⟩:=kf (d:=d+5) (h:=lx) (s:=ab) (by first | omega | (simp;omega)) CJ dE
           have dH:=fp.y
           have JR:=fp.n
           rw[←hA] at Cs
           have dV:=dm.trans fp.a
           have nR:=fp.a
           obtain ⟨z1,z2,tG,lU,di,AY,xI,Ws,Wt⟩:=ji (d:=d) (h:=sZ) (ng:=(decide ((c0:Int)=45))) Cs (zA.has nR) o8 lA lD dH
           have fl:=di.y
           have Er:=di.n
           rw[nQ] at lU
           have gu:=dV.trans di.a
           have pU:=di.a
           have kT:=mZ (d:=d+5) (h:=tG) (m:=mq) AY xI LI LJ fl
           rw[←s6] at kT
           have ev:=nf (d+7) cA ((AV.str s)::aV 127) h .ret tG (r2_|>Rb L0|>Rn 2|>Re nA|>Rc|>Re lU|>Re kT|>Rn 2) k!
           have eR:dJ s=(tx,0):=by rw[bF fW h_ ic rQ rR sy jL kj sB sC oW hZ pe hB hW s7,cn,eV,jr,←oO,←oC,←ub nQ Ih s6];exact if_neg o8
           rw[eR]
           exact ai rfl (az Tryz.func6 fU k! (.inr rfl) ev k!) gu rfl
   · have cn:sp=false:=f2
     have q4:sp=false:=d!
     have q5:(!sp)=true:=d!
     have r3_:=PE|>Rv (bQ 5 false true .u8 (c0:Int) 45)|>Rv (aG (a:=some (aj (decide ((c0:Int)=45)))) (b:=some (aj false)) q1)|>Rn 2|>Rb q2|>Rc|>Rq sl3|>Rn 2|>Re HX|>Rn 8|>Re HY|>Rn 9|>Rb q4|>Rb q4|>Rb q4|>Rb q4|>Rb q4|>Rv (aL (a:=some aB) (b:=some (aj false)) q4)|>Rc|>Rf|>Rc|>Rf|>Rc|>Rf|>Rc|>Rb q5|>Rc|>Rf|>Rv (aG (a:=some (aj dc)) (b:=some (aj false)) q5)|>Rf|>Rc
     rcases Bool.eq_false_or_eq_true dc with f3 | f3
     · have jV:dc=true:=f3
       have q6:dc=true:=d!
       have abq:=kDw h
       have r4_:=r3_|>Rb q6|>Rc|>Rb q6|>Re abq|>Rb q6|>Rc|>Rb q6|>Rc
       rcases Bool.eq_false_or_eq_true (!dw) with f4 | f4
       · have vO:dw=false:=by simpa using f4
         have q7:(!dw)=true:=d!
         have ev:=nf (d+7) cA ((AV.str s)::aV 127) h .ret h (r4_|>Rb q7|>Rb q7|>Rb q7|>Rb q6|>Rv (aG (a:=some (aj true)) (b:=some aB) q7)|>Rf|>Rv (aG (a:=some (aj true)) (b:=some (aj false)) q6)|>Rn 2|>Rt|>Rt|>Rt|>Rt|>Rt|>Rt|>Rn 2|>Rt|>Rn 2) k!
         have eR:dJ s=([],4):=by rw[bF fW h_ ic rQ rR sy jL kj sB sC oW hZ pe hB hW s7,cn,jV,vO];rfl
         rw[eR]
         exact ai rfl (az Tryz.func6 fU k! (.inr rfl) ev k!) (Has.refl _) rfl
       · have vO:dw=true:=by simpa using f4
         have dgw:=d_ (show nu wh=true by rw[←sB];exact vO)
         have q7:(!dw)=false:=d!
         have abr:=kDp h
         have r5_:=r4_|>Rb q7|>Rc|>Rb q7|>Re abr|>Rb q7|>Rc|>Rb q6|>Rv (aL (a:=some (aj true)) (b:=some (aj (!dp))) q7)|>Rf|>Rv (aG (a:=some (aj (!dp))) (b:=some (aj false)) q6)|>Rn 2
         rcases Bool.eq_false_or_eq_true (!dp) with f5 | f5
         · have AZ:dp=false:=by simpa using f5
           have q8:(!dp)=true:=d!
           have ev:=nf (d+7) cA ((AV.str s)::aV 127) h .ret h (r5_|>Rb q8|>Rb q8|>Rb q8|>Rb q8|>Rb q8|>Rb q8|>Rv (aG (a:=some (aj true)) (b:=some aB) q8)|>Rc|>Rt|>Rn 2) k!
           have eR:dJ s=([],4):=by rw[bF fW h_ ic rQ rR sy jL kj sB sC oW hZ pe hB hW s7,cn,jV,vO,AZ];rfl
           rw[eR]
           exact ai rfl (az Tryz.func6 fU k! (.inr rfl) ev k!) (Has.refl _) rfl
         · have AZ:dp=true:=by simpa using f5
           have dgp:=d_ (show nu pt=true by rw[←sC];exact AZ)
           have S4:=HW dgw dgp
           have oC:A=W:=by rw[hAA,cn,jV];rfl
           have oO:D=10^pt.length:=by rw[Ft,cn,jV];rfl
           have hA:A=bJ (cL (wh++pt)):=by rw[oC];exact hW
           have hD:=oO
           have lA1:=ke S4 hA
           have amk:(wh++pt).length=wh.length+pt.length:=by simp
           have lD1:(nW D).length≤pt.length+1:=by rw[hD];exact abp _
           have lA:(nW A).length<2^26:=by omega
           have lD:(nW D).length<2^26:=by omega
           have o8:D≠0:=by rw[hD];exact Nat.pos_iff_ne_zero.1 (Nat.pow_pos (by decide))
           have LI:=Nat.lt_of_le_of_lt (dD (Nat.div_le_self A (Nat.gcd A D))) lA
           have LJ:=Nat.lt_of_le_of_lt (dD (Nat.div_le_self D (Nat.gcd A D))) lD
           have q8:(!dp)=false:=d!
           have q9:(!dc)=false:=d!
           have BM:=fX 3 false false (List.length wh) (List.length pt) o!
           have L0:(decide (50000<(((List.length wh)+(List.length pt):Nat):Int)))=false:=d!
           have Oj:=rP 9 false false wh pt (by first | omega | (simp;omega))
           obtain ⟨zu,tG,lU,di,Cs,Wr⟩:=kf (d:=d+5) (h:=h) (s:=wh++pt) (by first | omega | (simp;omega)) S4 aw
           have fl:=di.y
           have Er:=di.n
           rw[←hA] at Cs
           have gu:=di.a
           obtain ⟨zd,pP,tQ,kK,zA,nwd⟩:=PA (d:=d+6) (h:=tG) (n:=(List.length pt)) o! fl
           have dS:=kK.y
           have abc:=kK.n
           rw[←hD] at zA
           have fm:=gu.trans kK.a
           have mf:=kK.a
           obtain ⟨z1,z2,vJ,JS,iG,AY,xI,Ws,Wt⟩:=ji (d:=d) (h:=pP) (ng:=(decide ((c0:Int)=45))) (Cs.has mf) zA o8 lA lD dS
           have iP:=iG.y
           have aff:=iG.n
           rw[nQ] at JS
           have jv:=fm.trans iG.a
           have kT:=mZ (d:=d+5) (h:=vJ) (m:=mq) AY xI LI LJ iP
           rw[←s6] at kT
           have ev:=nf (d+7) cA ((AV.str s)::aV 127) h .ret vJ (r5_|>Rb q8|>Rc|>Rb q8|>Rc|>Rb q8|>Rc|>Rb q5|>Rc|>Rb q5|>Rc|>Rb q8|>Rv (aG (a:=some (aj (!dc))) (b:=some (aj false)) q5)|>Rb q8|>Rc|>Rb q9|>Rb q9|>Rb q9|>Rb q8|>Rv (aL (a:=some aB) (b:=some (aj false)) q9)|>Rv (aL (a:=some (aj true)) (b:=some (aj false)) q8)|>Rc|>Rf|>Rn 2|>Rb q4|>Rb q4|>Rb q4|>Rb q4|>Rb q4|>Rb q4|>Rv (aL (a:=some aB) (b:=some (aj false)) q4)|>Rc|>Rf|>Rc|>Rf|>Rc|>Rf|>Rc|>Rb q5|>Rc|>Rb q5|>Rc|>Rb q5|>Rc|>Rb q5|>Rc|>Rb q5|>Rv BM|>Rb q5|>Rv (bM 3 false true .i64 (((List.length wh)+(List.length pt):Nat):Int) 50000)|>Rf|>Rv (aG (a:=some (aj (decide (50000<(((List.length wh)+(List.length pt):Nat):Int))))) (b:=some (aj false)) q5)|>Rn 2|>Rb L0|>Rc|>Rb q4|>Rn 2|>Rb q9|>Rn 3|>Rv Oj|>Re lU|>Rn 2|>Re tQ|>Re JS|>Re kT|>Rn 2) k!
           have eR:dJ s=(tx,0):=by rw[bF fW h_ ic rQ rR sy jL kj sB sC oW hZ pe hB hW s7,cn,jV,vO,AZ,←oC,←ub nQ Ih s6];first | rfl | (rw[oO];rfl)
           rw[eR]
           exact ai rfl (az Tryz.func6 fU k! (.inr rfl) ev k!) jv rfl
     · have jV:dc=false:=f3
       have q6:dc=false:=d!
       have q7:(!dc)=true:=d!
       have J0:=kDt h
       have r6_:=r3_|>Rb q6|>Rb q6|>Rb q6|>Rb q6|>Rb q6|>Rf|>Rv (aL (a:=some aB) (b:=some (aj false)) q6)|>Rn 2|>Rf|>Rc|>Rf|>Rc|>Rf|>Rc|>Rb q5|>Rc|>Rb q5|>Rc|>Rf|>Rv (aG (a:=some (aj (!dc))) (b:=some (aj false)) q5)|>Rf|>Rc|>Rb q7|>Rc|>Rb q7|>Re J0|>Rb q7|>Rc|>Rf|>Rv (aG (a:=some (aj (!dt))) (b:=some (aj false)) q7)|>Rn 2
       rcases Bool.eq_false_or_eq_true (!dt) with f4 | f4
       · have Ct:dt=false:=by simpa using f4
         have q8:(!dt)=true:=d!
         have ev:=nf (d+7) cA ((AV.str s)::aV 127) h .ret h (r6_|>Rb q8|>Rn 2) k!
         have eR:dJ s=([],4):=by rw[bF fW h_ ic rQ rR sy jL kj sB sC oW hZ pe hB hW s7,cn,jV,Ct];rfl
         rw[eR]
         exact ai rfl (az Tryz.func6 fU k! (.inr rfl) ev k!) (Has.refl _) rfl
       · have Ct:dt=true:=by simpa using f4
         have S4:jy (cL (List.drop 1 s)):=d_ (by rw[←A5,←oW];exact Ct)
         have oC:A=T1:=by rw[hAA,cn,jV];rfl
         have oO:D=1:=by rw[Ft,cn,jV];rfl
         have hA:A=bJ (cL (List.drop 1 s)):=by rw[oC,s7,A5]
         have hD:=oO
         have lA1:=ke S4 hA
         have lTl:(List.drop 1 s).length≤s.length:=by simp
         have lD1:(nW D).length≤1:=by rw[hD,mS (by decide) (by decide)];exact Nat.le_refl _
         have lA:(nW A).length<2^26:=by omega
         have lD:(nW D).length<2^26:=by omega
         have o8:D≠0:=by rw[hD];decide
         have LI:=Nat.lt_of_le_of_lt (dD (Nat.div_le_self A (Nat.gcd A D))) lA
         have LJ:=Nat.lt_of_le_of_lt (dD (Nat.div_le_self D (Nat.gcd A D))) lD
         have q8:(!dt)=false:=d!
         have u9:=fX 3 false false (List.length wh) (List.length pt) o!
         have Dj:(decide (50000<(((List.length wh)+(List.length pt):Nat):Int)))=false:=d!
         obtain ⟨zu,ki,j0,cu,Cs,Wr⟩:=kf (d:=d+5) (h:=h) (s:=List.drop 1 s) (by first | omega | (simp;omega)) S4 aw
         have cS:=cu.y
         have B7:=cu.n
         rw[←hA] at Cs
         have cP:=cu.a
         obtain ⟨sZ,HL,dH,vr,gS,mg⟩:=de cS (ar.cells [(af 1)] 3 false)
         have dV:=cP.trans mg
         have jh:Has ki sZ:=mg
         have zA:SW sZ (AV.slice ki.nx 0 1 1 false) (nW D):=by rw[hD,mS (by decide) (by decide)];exact fi (op:=false) gS
         obtain ⟨z1,z2,tG,lU,di,AY,xI,Ws,Wt⟩:=ji (d:=d) (h:=sZ) (ng:=(decide ((c0:Int)=45))) (Cs.has jh) zA o8 lA lD dH
         have fl:=di.y
         have Er:=di.n
         rw[nQ] at lU
         have gu:=dV.trans di.a
         have kT:=mZ (d:=d+5) (h:=tG) (m:=mq) AY xI LI LJ fl
         rw[←s6] at kT
         have ev:=nf (d+7) cA ((AV.str s)::aV 127) h .ret tG (r6_|>Rb q8|>Rn 2|>Rb q4|>Rb q4|>Rb q4|>Rb q4|>Rb q4|>Rb q4|>Rv (aL (a:=some aB) (b:=some (aj false)) q4)|>Rc|>Rf|>Rc|>Rf|>Rc|>Rf|>Rc|>Rb q5|>Rc|>Rb q5|>Rc|>Rb q5|>Rc|>Rb q5|>Rc|>Rb q5|>Rv u9|>Rb q5|>Rv (bM 3 false true .i64 (((List.length wh)+(List.length pt):Nat):Int) 50000)|>Rf|>Rv (aG (a:=some (aj (decide (50000<(((List.length wh)+(List.length pt):Nat):Int))))) (b:=some (aj false)) q5)|>Rn 2|>Rb Dj|>Rc|>Rb q4|>Rn 2|>Rb q7|>Rn 2|>Re j0|>Ra HL (fun i=>(AV.slice i 0 1 1 false))|>Re lU|>Re kT|>Rn 2) k!
         have eR:dJ s=(tx,0):=by rw[bF fW h_ ic rQ rR sy jL kj sB sC oW hZ pe hB hW s7,cn,jV,Ct,←oC,←ub nQ Ih s6];first | rfl | (rw[oO];rfl)
         rw[eR]
         exact ai rfl (az Tryz.func6 fU k! (.inr rfl) ev k!) gu rfl
 · have ru:ng=false:=by rw[←Ih];exact f1
   have A5:aH s=s:=by rw[ru] at hZ;unfold aH;rw[if_neg (of_decide_eq_false hZ.symm)]
   have kC:∀hh,aQ (d+7) (.fn 25) [.str (s),.int .u8 47] hh= .ret (.tuple [.str ab,.str be,.bool sp]) hh:=fun hh=>by rw[fW,h_,ic,A5];exact JY (d:=d+6) o!
   have kE:∀hh,aQ (d+7) (.fn 25) [.str (s),.int .u8 46] hh= .ret (.tuple [.str wh,.str pt,.bool dc]) hh:=fun hh=>by rw[rQ,rR,sy,A5];exact abo (d:=d+6) o!
   have kDt:∀hh,aQ (d+7) (.fn 26) [.str (s)] hh= .ret (.bool dt) hh:=fun hh=>by rw[oW,A5];exact jg (d:=d+6) o!
   have q2:(decide ((c0:Int)=45))=false:=d!
   have HX:=kC h
   have HY:=kE h
   rcases Bool.eq_false_or_eq_true sp with f2 | f2
   · have cn:sp=true:=f2
     have q3:sp=true:=d!
     have PT:=kDa h
     have r7_:=PE|>Rv (bQ 5 false true .u8 (c0:Int) 45)|>Rv (aG (a:=some (aj (decide ((c0:Int)=45)))) (b:=some (aj false)) q1)|>Rn 2|>Rb q2|>Rc|>Re HX|>Rn 8|>Re HY|>Rn 9|>Rb q3|>Rc|>Rb q3|>Re PT|>Rb q3|>Rc|>Rb q3|>Rc
     rcases Bool.eq_false_or_eq_true (!da) with f3 | f3
     · have eV:da=false:=by simpa using f3
       have q4:(!da)=true:=d!
       have ev:=nf (d+7) cA ((AV.str s)::aV 127) h .ret h (r7_|>Rb q4|>Rb q4|>Rb q4|>Rb q3|>Rv (aG (a:=some (aj true)) (b:=some aB) q4)|>Rv (aG (a:=some (aj true)) (b:=some (aj false)) q3)|>Rc|>Rt|>Rt|>Rt|>Rt|>Rt|>Rt|>Rn 2|>Rt|>Rt|>Rt|>Rt|>Rt|>Rt|>Rn 2|>Rt|>Rn 2) k!
       have eR:dJ s=([],4):=by rw[bF fW h_ ic rQ rR sy jL kj sB sC oW hZ pe hB hW s7,cn,eV];rfl
       rw[eR]
       exact ai rfl (az Tryz.func6 fU k! (.inr rfl) ev k!) (Has.refl _) rfl
     · have eV:da=true:=by simpa using f3
       have CJ:=d_ (show nu ab=true by rw[←jL];exact eV)
       have q4:(!da)=false:=d!
       have UJ:=kDb h
       have r8_:=r7_|>Rb q4|>Rc|>Rb q4|>Re UJ|>Rb q4|>Rc|>Rb q3|>Rv (aL (a:=some (aj true)) (b:=some (aj (!db))) q4)|>Rv (aG (a:=some (aj (!db))) (b:=some (aj false)) q3)|>Rc
       rcases Bool.eq_false_or_eq_true (!db) with f4 | f4
       · have jr:db=false:=by simpa using f4
         have q5:(!db)=true:=d!
         have ev:=nf (d+7) cA ((AV.str s)::aV 127) h .ret h (r8_|>Rb q5|>Rb q5|>Rb q5|>Rb q5|>Rb q5|>Rb q5|>Rv (aG (a:=some (aj true)) (b:=some aB) q5)|>Rc|>Rt|>Rt|>Rt|>Rt|>Rt|>Rt|>Rn 2|>Rt|>Rn 2) k!
         have eR:dJ s=([],4):=by rw[bF fW h_ ic rQ rR sy jL kj sB sC oW hZ pe hB hW s7,cn,eV,jr];rfl
         rw[eR]
         exact ai rfl (az Tryz.func6 fU k! (.inr rfl) ev k!) (Has.refl _) rfl
       · have jr:db=true:=by simpa using f4
         have LK:=d_ (show nu be=true by rw[←kj];exact jr)
         have oC:A=A1:=by rw[hAA,cn];rfl
         have oO:D=B:=by rw[Ft,cn];rfl
         have hA:A=bJ (cL ab):=by rw[oC];exact pe
         have hD:D=bJ (cL be):=by rw[oO];exact hB
         have lA1:=ke CJ hA
         have lD1:=ke LK hD
         have lA:(nW A).length<2^26:=by omega
         have lD:(nW D).length<2^26:=by omega
         have q5:(!db)=false:=d!
         have q6:(!sp)=false:=d!
         have u7:=fX 3 false false (List.length ab) (List.length be) o!
         have q8:(decide (50000<(((List.length ab)+(List.length be):Nat):Int)))=false:=d!
         obtain ⟨zd,h9,Dq,qO,zA,nwd⟩:=kf (d:=d+5) (h:=h) (s:=be) (by first | omega | (simp;omega)) LK aw
         have gR:=qO.y
         have aai:=qO.n
         rw[←hD] at zA
         have nm:=qO.a
         have r9_:=r8_|>Rb q5|>Rc|>Rb q5|>Rc|>Rb q5|>Rc|>Rb q6|>Rb q5|>Rv (aL (a:=some aB) (b:=some (aj false)) q6)|>Rb q5|>Rc|>Rf|>Rf|>Rf|>Rf|>Rf|>Rb q5|>Rc|>Rv (aL (a:=some (aj true)) (b:=some (aj false)) q5)|>Rc|>Rf|>Rc|>Rf|>Rc|>Rf|>Rc|>Rb q6|>Rb q6|>Rf|>Rv (aL (a:=some aB) (b:=some (aj false)) q6)|>Rf|>Rc|>Rf|>Rf|>Rf|>Rf|>Rn 3|>Rf|>Rn 2|>Rb q3|>Rc|>Rb q3|>Rc|>Rb q3|>Rc|>Rb q3|>Rc|>Rb q3|>Rv u7|>Rb q3|>Rv (bM 3 false true .i64 (((List.length ab)+(List.length be):Nat):Int) 50000)|>Rv (aG (a:=some (aj (decide (50000<(((List.length ab)+(List.length be):Nat):Int))))) (b:=some (aj false)) q3)|>Rc|>Rb q8|>Rc|>Rb q8|>Rc|>Rb q8|>Rc|>Rb q6|>Rb q6|>Rb q6|>Rb q6|>Rb q6|>Rb q6|>Rb q8|>Rv (aL (a:=some aB) (b:=some (aj false)) q6)|>Rv (aL (a:=some (aj true)) (b:=some (aj false)) q8)|>Rc|>Rf|>Rc|>Rb q3|>Rc|>Re Dq|>Rn 2|>Rv (zA).len|>Rv (bQ 3 false true .i64 (((nW D).length:Nat):Int) 0)
         rcases Bool.eq_false_or_eq_true (decide ((((nW D).length:Nat):Int)=0)) with f6 | f6
         · have o8:D=0:=by have f8:=of_decide_eq_true f6;exact nM.1 (List.length_eq_zero_iff.1 o!)
           have Dj:(decide ((((nW D).length:Nat):Int)=0))=true:=d!
           have ev:=nf (d+7) cA ((AV.str s)::aV 127) h .ret h9 (r9_|>Rb Dj|>Rn 2) k!
           have eR:dJ s=([],7):=by rw[bF fW h_ ic rQ rR sy jL kj sB sC oW hZ pe hB hW s7,cn,eV,jr,←oO,o8];rfl
           rw[eR]
           exact ai rfl (az Tryz.func6 fU k! (.inr rfl) ev k!) nm rfl
         · have o8:D≠0:=fun e=>by have f8:=of_decide_eq_false f6;rw[e,eO] at f8;simp at f8
           have LI:=Nat.lt_of_le_of_lt (dD (Nat.div_le_self A (Nat.gcd A D))) lA
           have LJ:=Nat.lt_of_le_of_lt (dD (Nat.div_le_self D (Nat.gcd A D))) lD
           have Dj:(decide ((((nW D).length:Nat):Int)=0))=false:=d!
           obtain ⟨zu,ki,j0,cu,Cs,Wr⟩:=kf (d:=d+5) (h:=h9) (s:=ab) (by first | omega | (simp;omega)) CJ gR
           have cS:=cu.y
           have B7:=cu.n
           rw[←hA] at Cs
           have cP:=nm.trans cu.a
           have rv:=cu.a
           obtain ⟨z1,z2,sZ,nA,fp,AY,xI,Ws,Wt⟩:=ji (d:=d) (h:=ki) (ng:=(decide ((c0:Int)=45))) Cs (zA.has rv) o8 lA lD cS
           have dH:=fp.y
           have JR:=fp.n
           rw[nQ] at nA
           have dV:=cP.trans fp.a
           have jh:=fp.a
           have kT:=mZ (d:=d+5) (h:=sZ) (m:=mq) AY xI LI LJ dH
           rw[←s6] at kT
           have ev:=nf (d+7) cA ((AV.str s)::aV 127) h .ret sZ (r9_|>Rb Dj|>Rn 2|>Re j0|>Rc|>Re nA|>Re kT|>Rn 2) k!
           have eR:dJ s=(tx,0):=by rw[bF fW h_ ic rQ rR sy jL kj sB sC oW hZ pe hB hW s7,cn,eV,jr,←oO,←oC,←ub nQ Ih s6];exact if_neg o8
           rw[eR]
           exact ai rfl (az Tryz.func6 fU k! (.inr rfl) ev k!) dV rfl
   · have cn:sp=false:=f2
     have q3:sp=false:=d!
     have q4:(!sp)=true:=d!
     rcases Bool.eq_false_or_eq_true dc with f3 | f3
     · have jV:dc=true:=f3
       have q5:dc=true:=d!
       have abq:=kDw h
       have HM:=PE|>Rv (bQ 5 false true .u8 (c0:Int) 45)|>Rv (aG (a:=some (aj (decide ((c0:Int)=45)))) (b:=some (aj false)) q1)|>Rn 2|>Rb q2|>Rc|>Re HX|>Rn 8|>Re HY|>Rn 9|>Rb q3|>Rb q3|>Rb q3|>Rb q3|>Rb q3|>Rv (aL (a:=some aB) (b:=some (aj false)) q3)|>Rc|>Rf|>Rc|>Rf|>Rc|>Rf|>Rc|>Rb q4|>Rc|>Rf|>Rv (aG (a:=some (aj dc)) (b:=some (aj false)) q4)|>Rf|>Rc|>Rb q5|>Rc|>Rb q5|>Re abq|>Rb q5|>Rc|>Rb q5|>Rc
       rcases Bool.eq_false_or_eq_true (!dw) with f4 | f4
       · have vO:dw=false:=by simpa using f4
         have q6:(!dw)=true:=d!
         have ev:=nf (d+7) cA ((AV.str s)::aV 127) h .ret h (HM|>Rb q6|>Rb q6|>Rb q6|>Rb q5|>Rv (aG (a:=some (aj true)) (b:=some aB) q6)|>Rf|>Rv (aG (a:=some (aj true)) (b:=some (aj false)) q5)|>Rn 2|>Rt|>Rt|>Rt|>Rt|>Rt|>Rt|>Rn 2|>Rt|>Rn 2) k!
         have eR:dJ s=([],4):=by rw[bF fW h_ ic rQ rR sy jL kj sB sC oW hZ pe hB hW s7,cn,jV,vO];rfl
         rw[eR]
         exact ai rfl (az Tryz.func6 fU k! (.inr rfl) ev k!) (Has.refl _) rfl
       · have vO:dw=true:=by simpa using f4
         have dgw:=d_ (show nu wh=true by rw[←sB];exact vO)
         have q6:(!dw)=false:=d!
         have abr:=kDp h
         have HN:=HM|>Rb q6|>Rc|>Rb q6|>Re abr|>Rb q6|>Rc|>Rb q5|>Rv (aL (a:=some (aj true)) (b:=some (aj (!dp))) q6)|>Rf|>Rv (aG (a:=some (aj (!dp))) (b:=some (aj false)) q5)|>Rn 2
         rcases Bool.eq_false_or_eq_true (!dp) with f5 | f5
         · have AZ:dp=false:=by simpa using f5
           have q7:(!dp)=true:=d!
           have ev:=nf (d+7) cA ((AV.str s)::aV 127) h .ret h (HN|>Rb q7|>Rb q7|>Rb q7|>Rb q7|>Rb q7|>Rb q7|>Rv (aG (a:=some (aj true)) (b:=some aB) q7)|>Rc|>Rt|>Rn 2) k!
           have eR:dJ s=([],4):=by rw[bF fW h_ ic rQ rR sy jL kj sB sC oW hZ pe hB hW s7,cn,jV,vO,AZ];rfl
           rw[eR]
           exact ai rfl (az Tryz.func6 fU k! (.inr rfl) ev k!) (Has.refl _) rfl
         · have AZ:dp=true:=by simpa using f5
           have dgp:=d_ (show nu pt=true by rw[←sC];exact AZ)
           have S4:=HW dgw dgp
           have oC:A=W:=by rw[hAA,cn,jV];rfl
           have oO:D=10^pt.length:=by rw[Ft,cn,jV];rfl
           have hA:A=bJ (cL (wh++pt)):=by rw[oC];exact hW
           have hD:=oO
           have lA1:=ke S4 hA
           have amk:(wh++pt).length=wh.length+pt.length:=by simp
           have lD1:(nW D).length≤pt.length+1:=by rw[hD];exact abp _
           have lA:(nW A).length<2^26:=by omega
           have lD:(nW D).length<2^26:=by omega
           have o8:D≠0:=by rw[hD];exact Nat.pos_iff_ne_zero.1 (Nat.pow_pos (by decide))
           have LI:=Nat.lt_of_le_of_lt (dD (Nat.div_le_self A (Nat.gcd A D))) lA
           have LJ:=Nat.lt_of_le_of_lt (dD (Nat.div_le_self D (Nat.gcd A D))) lD
           have q7:(!dp)=false:=d!
           have q8:(!dc)=false:=d!
           have u9:=fX 3 false false (List.length wh) (List.length pt) o!
           have Dj:(decide (50000<(((List.length wh)+(List.length pt):Nat):Int)))=false:=d!
           have nk:=rP 9 false false wh pt (by first | omega | (simp;omega))
           obtain ⟨zu,sZ,nA,fp,Cs,Wr⟩:=kf (d:=d+5) (h:=h) (s:=wh++pt) (by first | omega | (simp;omega)) S4 aw
           have dH:=fp.y
           have JR:=fp.n
           rw[←hA] at Cs
           have dV:=fp.a
           obtain ⟨zd,tG,lU,di,zA,nwd⟩:=PA (d:=d+6) (h:=sZ) (n:=(List.length pt)) o! dH
           have fl:=di.y
           have Er:=di.n
           rw[←hD] at zA
           have gu:=dV.trans di.a
           have pU:=di.a
           obtain ⟨z1,z2,pP,tQ,kK,AY,xI,Ws,Wt⟩:=ji (d:=d) (h:=tG) (ng:=(decide ((c0:Int)=45))) (Cs.has pU) zA o8 lA lD fl
           have dS:=kK.y
           have abc:=kK.n
           rw[nQ] at tQ
           have fm:=gu.trans kK.a
           have mf:=kK.a
           have kT:=mZ (d:=d+5) (h:=pP) (m:=mq) AY xI LI LJ dS
           rw[←s6] at kT
           have ev:=nf (d+7) cA ((AV.str s)::aV 127) h .ret pP (HN|>Rb q7|>Rc|>Rb q7|>Rc|>Rb q7|>Rc|>Rb q4|>Rc|>Rb q4|>Rc|>Rb q7|>Rv (aG (a:=some (aj (!dc))) (b:=some (aj false)) q4)|>Rb q7|>Rc|>Rb q8|>Rb q8|>Rb q8|>Rb q7|>Rv (aL (a:=some aB) (b:=some (aj false)) q8)|>Rv (aL (a:=some (aj true)) (b:=some (aj false)) q7)|>Rc|>Rf|>Rn 2|>Rb q3|>Rb q3|>Rb q3|>Rb q3|>Rb q3|>Rb q3|>Rv (aL (a:=some aB) (b:=some (aj false)) q3)|>Rc|>Rf|>Rc|>Rf|>Rc|>Rf|>Rc|>Rb q4|>Rc|>Rb q4|>Rc|>Rb q4|>Rc|>Rb q4|>Rc|>Rb q4|>Rv u9|>Rb q4|>Rv (bM 3 false true .i64 (((List.length wh)+(List.length pt):Nat):Int) 50000)|>Rf|>Rv (aG (a:=some (aj (decide (50000<(((List.length wh)+(List.length pt):Nat):Int))))) (b:=some (aj false)) q4)|>Rn 2|>Rb Dj|>Rc|>Rb q3|>Rn 2|>Rb q8|>Rn 3|>Rv nk|>Re nA|>Rn 2|>Re lU|>Re tQ|>Re kT|>Rn 2) k!
           have eR:dJ s=(tx,0):=by rw[bF fW h_ ic rQ rR sy jL kj sB sC oW hZ pe hB hW s7,cn,jV,vO,AZ,←oC,←ub nQ Ih s6];first | rfl | (rw[oO];rfl)
           rw[eR]
           exact ai rfl (az Tryz.func6 fU k! (.inr rfl) ev k!) fm rfl
     · have jV:dc=false:=f3
       have q5:dc=false:=d!
       have q6:(!dc)=true:=d!
       have J0:=kDt h
       rcases Bool.eq_false_or_eq_true (!dt) with f4 | f4
       · have Ct:dt=false:=by simpa using f4
         have q7:(!dt)=true:=d!
         have ev:=nf (d+7) cA ((AV.str s)::aV 127) h .ret h (PE|>Rv (bQ 5 false true .u8 (c0:Int) 45)|>Rv (aG (a:=some (aj (decide ((c0:Int)=45)))) (b:=some (aj false)) q1)|>Rn 2|>Rb q2|>Rc|>Re HX|>Rn 8|>Re HY|>Rn 9|>Rb q3|>Rb q3|>Rb q3|>Rb q3|>Rb q3|>Rv (aL (a:=some aB) (b:=some (aj false)) q3)|>Rc|>Rf|>Rc|>Rf|>Rc|>Rf|>Rc|>Rb q4|>Rc|>Rf|>Rv (aG (a:=some (aj dc)) (b:=some (aj false)) q4)|>Rf|>Rc|>Rb q5|>Rb q5|>Rb q5|>Rb q5|>Rb q5|>Rf|>Rv (aL (a:=some aB) (b:=some (aj false)) q5)|>Rn 2|>Rf|>Rc|>Rf|>Rc|>Rf|>Rc|>Rb q4|>Rc|>Rb q4|>Rc|>Rf|>Rv (aG (a:=some (aj (!dc))) (b:=some (aj false)) q4)|>Rf|>Rc|>Rb q6|>Rc|>Rb q6|>Re J0|>Rb q6|>Rc|>Rf|>Rv (aG (a:=some (aj (!dt))) (b:=some (aj false)) q6)|>Rn 2|>Rb q7|>Rn 2) k!
         have eR:dJ s=([],4):=by rw[bF fW h_ ic rQ rR sy jL kj sB sC oW hZ pe hB hW s7,cn,jV,Ct];rfl
         rw[eR]
         exact ai rfl (az Tryz.func6 fU k! (.inr rfl) ev k!) (Has.refl _) rfl
       · have Ct:dt=true:=by simpa using f4
         have S4:jy (cL (s)):=d_ (by rw[←A5,←oW];exact Ct)
         have oC:A=T1:=by rw[hAA,cn,jV];rfl
         have oO:D=1:=by rw[Ft,cn,jV];rfl
         have hA:A=bJ (cL (s)):=by rw[oC,s7,A5]
         have hD:=oO
         have lA1:=ke S4 hA
         have lTl:(s).length≤s.length:=by simp
         have lD1:(nW D).length≤1:=by rw[hD,mS (by decide) (by decide)];exact Nat.le_refl _
         have lA:(nW A).length<2^26:=by omega
         have lD:(nW D).length<2^26:=by omega
         have o8:D≠0:=by rw[hD];decide
         have LI:=Nat.lt_of_le_of_lt (dD (Nat.div_le_self A (Nat.gcd A D))) lA
         have LJ:=Nat.lt_of_le_of_lt (dD (Nat.div_le_self D (Nat.gcd A D))) lD
         have q7:(!dt)=false:=d!
         have u8:=fX 3 false false (List.length wh) (List.length pt) o!
         have q9:(decide (50000<(((List.length wh)+(List.length pt):Nat):Int)))=false:=d!
         obtain ⟨zu,lx,oh,cJ,Cs,Wr⟩:=kf (d:=d+5) (h:=h) (s:=s) (by first | omega | (simp;omega)) S4 aw
         have dE:=cJ.y
         have Ep:=cJ.n
         rw[←hA] at Cs
         have dm:=cJ.a
         obtain ⟨ki,GZ,cS,xa,iD,qG⟩:=de dE (ar.cells [(af 1)] 3 false)
         have cP:=dm.trans qG
         have nP:Has lx ki:=qG
         have zA:SW ki (AV.slice lx.nx 0 1 1 false) (nW D):=by rw[hD,mS (by decide) (by decide)];exact fi (op:=false) iD
         obtain ⟨z1,z2,sZ,nA,fp,AY,xI,Ws,Wt⟩:=ji (d:=d) (h:=ki) (ng:=(decide ((c0:Int)=45))) (Cs.has nP) zA o8 lA lD cS
         have dH:=fp.y
         have JR:=fp.n
         rw[nQ] at nA
         have dV:=cP.trans fp.a
         have nR:=nP.trans fp.a
         have kT:=mZ (d:=d+5) (h:=sZ) (m:=mq) AY xI LI LJ dH
         rw[←s6] at kT
         have ev:=nf (d+7) cA ((AV.str s)::aV 127) h .ret sZ (PE|>Rv (bQ 5 false true .u8 (c0:Int) 45)|>Rv (aG (a:=some (aj (decide ((c0:Int)=45)))) (b:=some (aj false)) q1)|>Rn 2|>Rb q2|>Rc|>Re HX|>Rn 8|>Re HY|>Rn 9|>Rb q3|>Rb q3|>Rb q3|>Rb q3|>Rb q3|>Rv (aL (a:=some aB) (b:=some (aj false)) q3)|>Rc|>Rf|>Rc|>Rf|>Rc|>Rf|>Rc|>Rb q4|>Rc|>Rf|>Rv (aG (a:=some (aj dc)) (b:=some (aj false)) q4)|>Rf|>Rc|>Rb q5|>Rb q5|>Rb q5|>Rb q5|>Rb q5|>Rf|>Rv (aL (a:=some aB) (b:=some (aj false)) q5)|>Rn 2|>Rf|>Rc|>Rf|>Rc|>Rf|>Rc|>Rb q4|>Rc|>Rb q4|>Rc|>Rf|>Rv (aG (a:=some (aj (!dc))) (b:=some (aj false)) q4)|>Rf|>Rc|>Rb q6|>Rc|>Rb q6|>Re J0|>Rb q6|>Rc|>Rf|>Rv (aG (a:=some (aj (!dt))) (b:=some (aj false)) q6)|>Rn 2|>Rb q7|>Rn 2|>Rb q3|>Rb q3|>Rb q3|>Rb q3|>Rb q3|>Rb q3|>Rv (aL (a:=some aB) (b:=some (aj false)) q3)|>Rc|>Rf|>Rc|>Rf|>Rc|>Rf|>Rc|>Rb q4|>Rc|>Rb q4|>Rc|>Rb q4|>Rc|>Rb q4|>Rc|>Rb q4|>Rv u8|>Rb q4|>Rv (bM 3 false true .i64 (((List.length wh)+(List.length pt):Nat):Int) 50000)|>Rf|>Rv (aG (a:=some (aj (decide (50000<(((List.length wh)+(List.length pt):Nat):Int))))) (b:=some (aj false)) q4)|>Rn 2|>Rb q9|>Rc|>Rb q3|>Rn 2|>Rb q6|>Rn 2|>Re oh|>Ra GZ (fun i=>(AV.slice i 0 1 1 false))|>Re nA|>Re kT|>Rn 2) k!
         have eR:dJ s=(tx,0):=by rw[bF fW h_ ic rQ rR sy jL kj sB sC oW hZ pe hB hW s7,cn,jV,Ct,←oC,←ub nQ Ih s6];first | rfl | (rw[oO];rfl)
         rw[eR]
         exact ai rfl (az Tryz.func6 fU k! (.inr rfl) ev k!) dV rfl
theorem Ez {h:ah} {e s xt:TypeId} {xd:TypeDesc} {tys:Array TypeId} {bytes:Nat} {z x:AV} {M:List AV} (h0:tys[0]? =some s) (h1:tys[1]? =some xt) (hs:env.P.underlying s=some (.slice e)) (hx:env.P.underlying xt=some xd) (hi:pZ xd=false) (Ij:bK env e=some 1) (hb:mr env e=some bytes) (Jd:jW env e=some z) (hz:z.cells.length=1) (h8:bytes≤63) (hlen:rI x=some M.length) (hf:iq h 1 M.length x=some M) (Ti:M.all AV.scalar=true) (hm:M≠ []) (hl:M.length≤1073741824):
 ∃h',dI env h tys .ax x=some (.slice h.nx 0 M.length M.length true,h')∧h.new (.cells M e false)=some h':=by
 obtain ⟨h',n⟩:=eH (h:=h) (.cells M e false)
 refine ⟨h',?_,n⟩
 have hn:¬M.length=0:=fun e=>hm (List.length_eq_zero_iff.1 e)
 have FL:(4*M.length+4096)*(bytes+1)≤1099511627776:=Nat.le_trans (Nat.mul_le_mul (show 4*M.length+4096≤17179869184 by omega) (show bytes+1≤64 by omega)) (by decide)
 simp only[dI,h0,h1,hs,hx,hi,Ij,hb,hlen,hf,Jd,hz,Ti,Nat.mul_one,hn,FL,n,if_true,if_false,and_self,Bool.false_eq_true]
theorem EA {h:ah} {e s xt:TypeId} {xd:TypeDesc} {tys:Array TypeId} {bytes p:Nat} {op:Bool} {z x:AV} {L M:List AV} (y:Tidy h) (h0:tys[0]? =some s) (h1:tys[1]? =some xt) (hs:env.P.underlying s=some (.slice e)) (hx:env.P.underlying xt=some xd) (hi:pZ xd=false) (Ij:bK env e=some 1) (hb:mr env e=some bytes) (Jd:jW env e=some z) (hz:z.cells.length=1) (h8:bytes≤63) (hlen:rI x=some M.length) (hf:iq h 1 M.length x=some M) (Ti:M.all AV.scalar=true) {n:Nat} (hn:L.length=n) (hm:M≠ []) (hl:n+M.length≤1073741824)
 (hg:h.get p=some (.cells L e false)):
 ∃h',dI env h tys (.slice p 0 n n op) x=some (.slice h.nx 0 (n+M.length) (n+M.length) true,h')∧Tidy h'∧h'.nx=h.nx+1∧Kept p h h'∧h'.get h.nx=some (.cells (L++M) e false):=by
 have hp:=y _ _ hg
 subst hn
 have ec:(L.drop 0).take (L.length*1)++M=L++M:=by
  rw[List.drop_zero,Nat.mul_one,List.take_of_length_le (Nat.le_refl _)]
 have y2:Tidy (if op then h.put p none else h):=by
  cases op with
  | false=>exact y
  | true=>
   intro i x g
   show i<h.nx
   by_cases hi:i=p
   · subst hi;exact hp
   · rw[if_pos rfl,ah.bZ (Ne.symm hi)] at g;exact y i x g
 have n2:(if op then h.put p none else h).nx=h.nx:=by cases op<;>rfl
 obtain ⟨h',n⟩:=eH (h:=if op then h.put p none else h) (.cells (L++M) e false)
 refine ⟨h',?_,bI y2 n,by rw[cW n,n2],fun i x hi g=>?_,by rw[←n2];exact bU n⟩
 · have hn:0<M.length:=List.length_pos_iff.2 hm
   have FL:(4*(L.length+M.length)+4096)*(bytes+1)≤1099511627776:=Nat.le_trans (Nat.mul_le_mul (show 4*(L.length+M.length)+4096≤17179869184 by omega) (show bytes+1≤64 by omega)) (by decide)
   have hc:¬L.length+M.length≤L.length:=by omega
   simp only[dI,h0,h1,hs,hx,hi,Ij,hb,hlen,hf,Jd,hz,Ti,hg,hc,if_true,if_false,Bool.false_eq_true,Nat.mul_one]
   rw[if_pos ⟨trivial,trivial,trivial⟩,if_pos ⟨FL,by omega,fun _=>⟨trivial,by omega⟩⟩]
   rw[show List.take L.length (List.drop 0 L)=L by rw[List.drop_zero,List.take_length],n]
 · refine b6 y2 n ?_
   cases op with
   | false=>exact g
   | true=>rw[if_pos rfl,ah.bZ (Ne.symm hi)];exact g
def iY (e:TypeId) (h0 h:ah) (z:AV) (L:List AV):Prop:=(z= .ax∧L=[])∨(L≠ []∧∃p op,z= .slice p 0 L.length L.length op∧h0.nx≤p∧h.get p=some (.cells L e false))
theorem iY.has {e:TypeId} {h0 h h':ah} {z:AV} {L:List AV} (o:iY e h0 h z L) (a:Has h h'):iY e h0 h' z L:=o.imp id fun ⟨hn,p,op,e,h1,g⟩=>⟨hn,p,op,e,h1,a _ _ g⟩
theorem iY.aA {k:IntKind} {e:TypeId} {h0 h:ah} {z:AV} {l:List Nat} (o:iY e h0 h z (aA k l)) (hl:l.length<2^60) (hs:bK env e=some 1) (ha:iS env e=some false):ao env h k e z l:=by
 rcases o with ⟨rfl,e0⟩ | ⟨hn,p,op,rfl,_,hg⟩
 · have:l=[]:=List.length_eq_zero_iff.1 (by have:=congrArg List.length e0;rwa [aM] at this)
   subst this
   exact ao.nil hs ha
 · rw[aM]
   exact ao.of hs ha hl (Nat.le_refl _) (fun _=>List.length_pos_iff.2 fun e=>hn (by rw[e];rfl)) hg fun i z hz=>by rw[Nat.zero_add];exact dP hz
theorem iY.app {e s xt:TypeId} {xd:TypeDesc} {h0 h:ah} {tys:Array TypeId} {bytes:Nat} {z0 z x:AV} {L M:List AV} (y:Tidy h) (y0:Tidy h0) (a:Has h0 h) (hle:h0.nx≤h.nx) (o:iY e h0 h z L) (t0:tys[0]? =some s) (t1:tys[1]? =some xt) (hs:env.P.underlying s=some (.slice e)) (hx:env.P.underlying xt=some xd) (hi:pZ xd=false) (Ij:bK env e=some 1) (hb:mr env e=some bytes) (Jd:jW env e=some z0) (hz:z0.cells.length=1) (h8:bytes≤63) (hlen:rI x=some M.length) (hf:iq h 1 M.length x=some M) (Ti:M.all AV.scalar=true) (hm:M≠ []) (hl:L.length+M.length≤1073741824):
 ∃z' h',dI env h tys z x=some (z',h')∧Tidy h'∧h.nx≤h'.nx∧Has h0 h'∧iY e h0 h' z' (L++M):=by
 rcases o with ⟨rfl,rfl⟩ | ⟨hn,p,op,rfl,hp,hg⟩
 · obtain ⟨h',e1,n⟩:=Ez (h:=h) t0 t1 hs hx hi Ij hb Jd hz h8 hlen hf Ti hm (by simpa using hl)
   have:=cW n
   exact ⟨_,h',e1,bI y n,by omega,a.trans (bu y n),.inr ⟨by simpa using hm,h.nx,true,by simp,hle,bU n⟩⟩
 · obtain ⟨h',e1,y1,z1,k1,g1⟩:=EA (op:=op) y t0 t1 hs hx hi Ij hb Jd hz h8 hlen hf Ti rfl hm hl hg
   exact ⟨_,h',e1,y1,by omega,Has.ak a k1 y0 hp,.inr ⟨by simp [hn],h.nx,true,by rw[List.length_append],hle,g1⟩⟩
theorem UK (s:List UInt8):rI (.str s)=some (aA .u8 (cL s)).length:=by rw[aM,fM];rfl
theorem LM {i:Nat} {b:Bool} {v:AV}:rI (.slice i 0 1 1 b)=some [v].length:=rfl
theorem DC {h:ah} {i:Nat} {b:Bool} {v:AV} {e:TypeId} {ro:Bool} (hg:h.get i=some (.cells [v] e ro)):iq h 1 [v].length (.slice i 0 1 1 b)=some [v]:=by
 simp [iq,hg]
theorem J1 {h:ah} (s:List UInt8):iq h 1 (aA .u8 (cL s)).length (.str s)=some (aA .u8 (cL s)):=by
 rw[aM,fM]
 simp [iq,aA,cL,List.map_map,Function.comp_def]
theorem ao.back {k:IntKind} {e:TypeId} {h h':ah} {z:AV} {l:List Nat} (nz:ao env h' k e z l) (nw:mm h z) (v:AV.within h.nx 20 z=true):ao env h k e z l:=by
 rcases nz.known with rfl | ⟨p,o,n,c,b,rfl,_⟩
 · have h1:=nz.len
   rw[nZ] at h1
   simp only[Option.some.injEq,AV.int.injEq,true_and] at h1
   rw[List.length_eq_zero_iff.1 (show l.length=0 by omega)]
   exact ao.nil nz.at_.size nz.agg
 · have:=of_decide_eq_true (show decide (p<h.nx)=true from v)
   exact absurd rfl (nw p this o n c b)
theorem Wx {t e:TypeId} {p n k:Nat} {op:Bool} (ht:env.P.underlying t=some (.slice e)) (hs:bK env e=some 1) (hk:k<n):aZ env t (.slice p 0 n n op) (some (.int .i64 (k:Nat))) none none=some (.slice p k (n - k) (n - k) op):=by
 have:=C4 (E:=env) (t:=t) (e:=e) (p:=p) (o:=0) (m:=n) (c:=n) (lo:=k) (hi:=n) (op:=op) (low:=some (.int .i64 (k:Nat))) (high:=none) ht hs (.inl rfl) (.inr ⟨rfl,rfl⟩) o! (Nat.le_refl _) (Nat.le_refl _) hk
 rwa [Nat.zero_add] at this
noncomputable def jd:Code:=(Tryz.f88.body).getD .skip
theorem LN:Tryz.f88.body=some jd:=by kernel_rfl
noncomputable def rz:Code:=(aY jd).getD 0 .skip
noncomputable def rB:Code:=(aY jd).getD 1 .skip
noncomputable def m8:Code:=(aY jd).getD 2 .skip
theorem ao.off {k:IntKind} {e:TypeId} {h:ah} {z:AV} {l:List Nat} {p:Nat} (y:Tidy h) (x:ao env h k e z l) (hl:0<l.length) (hp:h.nx≤p):mj p z:=fun o n c b e=>by
 subst e
 obtain ⟨_,C,f,ro,g,_⟩:=x.inv.2 (List.length_pos_iff.1 hl)
 have:=y _ _ g
 omega
theorem PU {v:Nat}:∀{l:List Nat} {i:Nat},i<l.length→ay (l.set i v)+l.getD i 0*18446744073709551616^i=ay l+v*18446744073709551616^i
 | a::l,0,_=>by simp [ay];omega
 | a::l,i+1,h=>by
  have:=PU (v:=v) (l:=l) (i:=i) (by simpa using h)
  rw[List.set_cons_succ,ay,ay,List.getD_cons_succ,Nat.pow_succ,←Nat.mul_assoc,←Nat.mul_assoc]
  omega
theorem PV:∀n,ay (List.replicate n 0)=0
 | 0=>rfl
 | n+1=>by rw[List.replicate_succ,ay,PV n]
theorem Wy {D:List Nat} {i:Nat} (h:ay D<18446744073709551616^i):D.getD i 0=0:=by
 by_cases hi:i<D.length
 · have h1:ay D=ay (D.take (i+1))+18446744073709551616^(D.take (i+1)).length*ay (D.drop (i+1)):=by
    conv=>lhs;rw[←List.take_append_drop (i+1) D]
    rw[cF]
   rw[cM hi] at h1
   have h2:18446744073709551616^i*D.getD i 0<18446744073709551616^i*1:=by rw[Nat.mul_one];omega
   have:=Nat.lt_of_mul_lt_mul_left h2
   omega
 · rw[List.getD_eq_getElem?_getD,List.getElem?_eq_none o!];rfl
theorem UL {z x:List Nat} {m:Nat}:∀k,k≤x.length→k≤z.length→ay (vH z x m k).1+18446744073709551616^k*(vH z x m k).2=ay (z.take k)+ay (x.take k)*m
 | 0,_,_=>by simp [vH,ay]
 | k+1,hx,hz=>by
  have ih:=UL (z:=z) (x:=x) (m:=m) k o! o!
  rw[cM o!,cM o!]
  simp only[vH]
  rw[jR,BA,Nat.add_mul,Nat.pow_succ]
  have hP2:18446744073709551616^k*x.getD k 0*m=18446744073709551616^k*(x.getD k 0*m):=Nat.mul_assoc _ _ _
  rw[hP2]
  generalize (vH z x m k).2=c at *
  generalize ay (vH z x m k).1=V at *
  generalize x.getD k 0*m=P at *
  generalize z.getD k 0=Z at *
  generalize 18446744073709551616^k=B at *
  have h1:=Nat.div_add_mod (P+Z+c) 18446744073709551616
  have h2:B*(18446744073709551616*((P+Z+c) /18446744073709551616)+(P+Z+c)%18446744073709551616)=B*(P+Z+c):=by rw[h1]
  rw[Nat.mul_add,Nat.mul_add,Nat.mul_add,←Nat.mul_assoc] at h2
  omega
theorem J2 {z x:List Nat} {m:Nat}:∀k,Words (vH z x m k).1
 | 0=>fun w hw=>by cases hw
 | k+1=>by
  simp only[vH]
  exact (J2 k).append (Words.one (Nat.mod_lt _ (by decide)))
theorem PW {d:Nat} {h:ah} {x:AV} {p N k mk:Nat} {op:Bool} {D l:List Nat} (hg:h.get p=some (.cells (aA .u64 D) 54 false)) (lD:D.length=N) (w:Words D) (nx:ao env h .u64 54 x l) (wl:Words l) (I2:0<l.length) (ox:mj p x) (hk:k+l.length<N) (hm:mk<18446744073709551616) (y:Tidy h):
 ∃D1 cy hk,aQ (d+2) (.fn 134) [.slice p k (N - k) (N - k) op,x,.int .u64 (mk:Nat)] h= .ret (.int .u64 (cy:Nat)) hk∧nj h hk p (.cells (aA .u64 D1) 54 false)∧hk.nx=h.nx∧D1.length=N∧Words D1∧cy<18446744073709551616∧ay D1+cy*18446744073709551616^(k+l.length)=ay D+ay l*mk*18446744073709551616^k∧D1.getD (k+l.length) 0=D.getD (k+l.length) 0:=by
 have hw:EL h (.slice p k (N - k) (N - k) op) p k (N - k) (aA .u64 D) 54:=⟨⟨_,_,rfl,Nat.le_refl _⟩,hg,by rw[aM];omega⟩
 have hz:Holds .u64 (aA .u64 D) k (D.drop k):=fun i z hz=>by
  rw[List.getElem?_drop] at hz
  exact dP hz
 obtain ⟨IZ,k1,k2,k3⟩:=RN (d:=d) hw I2 o! (by rw[List.length_drop];omega) hz nx ox wl (w.drop k) hm y (Nat.zero_le _)
 have hlen:=BA (D.drop k) l mk l.length
 have yY:=UL (z:=D.drop k) (x:=l) (m:=mk) l.length (Nat.le_refl _) (by rw[List.length_drop];omega)
 have aml:=C8 (z:=D.drop k) (x:=l) (m:=mk) (w.drop k) wl hm l.length
 have hww:=J2 (z:=D.drop k) (x:=l) (m:=mk) l.length
 rw[List.take_length] at yY
 generalize hW:(vH (D.drop k) l mk l.length).1=W at *
 generalize (vH (D.drop k) l mk l.length).2=cy at *
 rw[mC o!] at k2
 refine ⟨D.take k++W++D.drop (k+W.length),cy,IZ,k1,k2,k3,by simp;omega,((w.take k).append hww).append (w.drop _),aml,?_,?_⟩
 · have hD:ay D=ay (D.take k)+18446744073709551616^k*(ay ((D.drop k).take l.length)+18446744073709551616^l.length*ay (D.drop (k+l.length))):=by
    conv=>lhs;rw[←List.take_append_drop k D,cF,List.length_take,Nat.min_eq_left o!]
    congr 2
    conv=>lhs;rw[←List.take_append_drop l.length (D.drop k),cF,List.length_take,Nat.min_eq_left (by rw[List.length_drop];omega),List.drop_drop]
   rw[hD,cF,cF,List.length_append,List.length_take,Nat.min_eq_left o!,hlen,Nat.pow_add,Nat.mul_add,Nat.mul_comm (ay l*mk)]
   have h2:18446744073709551616^k*(ay W+18446744073709551616^l.length*cy)=18446744073709551616^k*(ay ((D.drop k).take l.length)+ay l*mk):=by rw[yY]
   rw[Nat.mul_add,Nat.mul_add] at h2
   rw[show cy*(18446744073709551616^k*18446744073709551616^l.length)=18446744073709551616^k*(18446744073709551616^l.length*cy) by ac_rfl,Nat.mul_assoc]
   omega
 · rw[List.getD_eq_getElem?_getD,List.getElem?_append_right (by simp;omega),List.getElem?_drop,List.getD_eq_getElem?_getD]
   congr 2
   simp;omega
theorem Wz {h0 h:ah} {z:AV} {N:Nat} (hN:0<N) (o:iY 54 h0 h z (aA .u64 (List.replicate N 0))):∃p op,z= .slice p 0 N N op∧h0.nx≤p∧h.get p=some (.cells (aA .u64 (List.replicate N 0)) 54 false):=by
 rcases o with ⟨_,e⟩ | ⟨_,p,op,rfl,hp,hg⟩
 · have:=congrArg List.length e
   rw[aM,List.length_replicate] at this
   exact absurd this (by simp;omega)
 · exact ⟨p,op,by rw[aM,List.length_replicate],hp,hg⟩
theorem uc {d:Nat} {h0:ah} {x y_:AV} {l m:List Nat} {N:Nat} (Wc:Tidy h0) (nx:ao env h0 .u64 54 x l) (ny:ao env h0 .u64 54 y_ m) (S5:l.length+m.length<2^28) (hN:N=l.length+m.length):∀(r j:Nat) (h:ah) (z:AV),j+r=N→iY 54 h0 h z (aA .u64 (List.replicate j 0))→Tidy h→Has h0 h→h0.nx≤h.nx→∀x_:Nat→AV,
 ∃(z2:AV) (h2:ah),(∃y:Nat→AV,Ev env (aQ (d+2)) (.loop rz) ⟨(z::x::y_::rx x_ 3 72 []),h,[],.no⟩ (.exit 0) ⟨(z2::x::y_::rx y 3 72 []),h2,[],.no⟩)∧Tidy h2∧Has h0 h2∧h0.nx≤h2.nx∧iY 54 h0 h2 z2 (aA .u64 (List.replicate N 0))
 | 0,j,h,z,hj,oz,aw,a0,hle,x_=>by
  have agX:(List.replicate j 0).length=j:=List.length_replicate ..
  have u1:=fX 3 false false l.length m.length o!
  have q2:=cI ((j:Int)<((l.length+m.length:Nat):Int))
  have ev:=pk (d+2) rz (z::x::y_::rx x_ 3 72 []) h (.exit 0) h (CC<|VV (show dO (some (.slice 54)) (some z)=some (ag j) from (by rw[←agX];exact ((oz.aA (by simp;omega) k! k!)).len))<|CC<|VV ((nx.has a0)).len<|CC<|VV ((ny.has a0)).len<|VV u1<|VV (bh 3 false false .i64 (j:Int) ((l.length+m.length:Nat):Int))<|BB q2<|ZZ) k!
  exact ⟨z,h,cT (Ev.out ev) k!,aw,a0,hle,by rw[show N=j by omega];exact oz⟩
 | r+1,j,h,z,hj,oz,aw,a0,hle,x_=>by
  have agX:(List.replicate j 0).length=j:=List.length_replicate ..
  have u1:=fX 3 false false l.length m.length o!
  have q2:=dg ((j:Int)<((l.length+m.length:Nat):Int))
  obtain ⟨h3,gn,bt,ky,eb,bC⟩:=de aw (ar.cells [(aa 0)] 54 false)
  have aX:Has h h3:=bC
  have gl:=eb
  obtain ⟨z2,h4,Pv,gk,VL,aaT,W3⟩:=iY.app (xd:= .slice 54) (h0:=h0) bt Wc (a0.trans aX) o! (oz.has aX) (tys:= #[56,56]) rfl rfl k! k! rfl k! (bytes:=8) k! (z0:=AV.int .u64 0) k! rfl (by decide) (LM (b:=false)) (DC gl) rfl (by simp) (by rw[aM];simp;omega)
  have ev:=pk (d+2) rz (z::x::y_::rx x_ 3 72 []) h .normal h4 (CC<|VV (show dO (some (.slice 54)) (some z)=some (ag j) from (by rw[←agX];exact ((oz.aA (by simp;omega) k! k!)).len))<|CC<|VV ((nx.has a0)).len<|CC<|VV ((ny.has a0)).len<|VV u1<|VV (bh 3 false false .i64 (j:Int) ((l.length+m.length:Nat):Int))<|BB q2<|CC<|NN gn (fun i=>(AV.slice i 0 1 1 false))<|PP Pv<|CC<|ZZ) k!
  have oz3:iY 54 h0 h4 z2 (aA .u64 (List.replicate (j+1) 0)):=by
   rw[List.replicate_succ',th];exact W3
  exact bp (tin:=fun x_=>(z2::x::y_::rx x_ 3 72 [])) ev k! fun x_=>uc Wc nx ny S5 hN r (j+1) h4 z2 o! oz3 gk aaT o! x_
theorem xL {d:Nat} {h:ah} {x y_:AV} {p N k j ca:Nat} {op:Bool} {m D:List Nat} (CI:ca=0) (x_:Nat→AV):
 ∃y:Nat→AV,Ev env (aQ (d+2)) (.loop m8) ⟨((AV.slice p 0 N N op)::x::rx x_ 2 7 ((ae ca)::(ag j)::rx x_ 11 22 (y_::(ag m.length)::(ag k)::rx x_ 36 39 []))),h,[],.no⟩ (.exit 4) ⟨((AV.slice p 0 N N op)::x::rx y 2 31 (y_::(ag m.length)::(ag k)::rx y 36 39 [])),h,[],.no⟩:=by
 have q1:=TJ ((ca:Int)=0)
 have ev:=pk (d+2) m8 ((AV.slice p 0 N N op)::x::rx x_ 2 7 ((ae ca)::(ag j)::rx x_ 11 22 (y_::(ag m.length)::(ag k)::rx x_ 36 39 []))) h (.exit 4) h (CC<|VV (jb 54 false true .u64 (ca:Int) 0)<|BB q1<|ZZ) k!
 exact cT (Ev.out ev) k!
theorem IQ {d:Nat} {h:ah} {x y_:AV} {p N k j c:Nat} {op:Bool} {m D:List Nat} (S5:N<2^28) (lD:D.length=N) (w:Words D) (hz:D.getD j 0=0) (hj:j<N) (hc:c<18446744073709551616) (aw:Tidy h) (E9:p<h.nx) (hg:h.get p=some (.cells (aA .u64 D) 54 false)) (x_:Nat→AV):
 ∃h2:ah,(∃y:Nat→AV,Ev env (aQ (d+2)) (.loop m8) ⟨((AV.slice p 0 N N op)::x::rx x_ 2 7 ((ae c)::(ag j)::rx x_ 11 22 (y_::(ag m.length)::(ag k)::rx x_ 36 39 []))),h,[],.no⟩ (.exit 4) ⟨((AV.slice p 0 N N op)::x::rx y 2 31 (y_::(ag m.length)::(ag k)::rx y 36 39 [])),h2,[],.no⟩)∧Tidy h2∧Kept p h h2∧h2.nx=h.nx∧h2.get p=some (.cells (aA .u64 (D.set j c)) 54 false):=by
 by_cases q:c=0
 · obtain ⟨y,e⟩:=xL (d:=d) (h:=h) (x:=x) (y_:=y_) (p:=p) (N:=N) (k:=k) (j:=j) (ca:=c) (op:=op) (m:=m) (D:=D) q x_
   refine ⟨h,⟨y,e⟩,aw,Kept.refl _ _,rfl,?_⟩
   rw[q,show D.set j 0=D from List.ext_getElem? fun i=>by
    rw[List.getElem?_set]
    split
    · rename_i e;subst e
      rw[if_pos o!,fK o!,hz]
    · rfl]
   exact hg
 · obtain ⟨ca,CI⟩:∃ca,ca=c:=⟨_,rfl⟩
   rw[←CI]
   have hwj:=w.getD j
   have q1:=W0 ((ca:Int)=0)
   have q2:=cI ((j:Int)=(N:Int))
   have ix3:bq env (some (.slice 54)) (some (AV.slice p 0 N N op)) (some (ag j))=some (AV.ptr p j):=cN k! (show j<N by omega) o!
   have ld4:bk env h 54 (AV.ptr p j)=some (ae (D.getD j 0)):=tj k! hg (show j<D.length by omega)
   have e5:jk [(ae (D.getD j 0)),(ae ca),(aa 0)]=some (AV.tuple [(ae (((D.getD j 0)+ca+0)%18446744073709551616)),(ae (((D.getD j 0)+ca+0) /18446744073709551616))]):=fL (D.getD j 0) ca 0 o!
   have R5:bq env (some (.slice 54)) (some (AV.slice p 0 N N op)) (some (ag j))=some (AV.ptr p j):=cN k! (show j<N by omega) o!
   obtain ⟨h7,AF,BK,eC,EV⟩:=Iz 54 j (((D.getD j 0)+ca+0)%18446744073709551616) aw hg (show j<D.length by omega)
   have eJ:Kept p h h7:=BK.2.2
   have u8:=fX 3 false true j 1 o!
   have ev:=pk (d+2) m8 ((AV.slice p 0 N N op)::x::rx x_ 2 7 ((ae ca)::(ag j)::rx x_ 11 22 (y_::(ag m.length)::(ag k)::rx x_ 36 39 []))) h .normal h7 (CC<|VV (jb 54 false true .u64 (ca:Int) 0)<|BB q1<|CN 3<|VV (bQ 3 false false .i64 (j:Int) (N:Int))<|BB q2<|CN 4<|VV ix3<|MM ld4<|CC<|QQ e5<|CN 3<|VV R5<|SS AF<|CN 2<|VV u8<|CC<|ZZ) k!
   have g1:=BK.2.1
   have e0:((D.getD j 0)+ca+0)%18446744073709551616=ca:=by omega
   rw[e0] at g1
   exact dj (tin:=fun x_=>((AV.slice p 0 N N op)::x::rx x_ 2 7 ((ae (((D.getD j 0)+ca+0) /18446744073709551616))::(ag (j+1))::rx x_ 11 22 (y_::(ag m.length)::(ag k)::rx x_ 36 39 [])))) ev k! fun x_=>⟨h7,xL (d:=d) (D:=D) o! x_,eC,eJ,by omega,g1⟩
theorem vx {d:Nat} {h0:ah} {x y_:AV} {p N:Nat} {op:Bool} {l m:List Nat} (y0:Tidy h0) (nx:ao env h0 .u64 54 x l) (ny:ao env h0 .u64 54 y_ m) (wl:Words l) (wm:Words m) (I2:0<l.length) (ajP:l.length+m.length<2^28) (hN:N=l.length+m.length) (hp:h0.nx≤p):∀(r k:Nat) (h:ah) (D:List Nat),k+r=m.length→D.length=N→Words D→ay D=ay l*ay (m.take k)→Tidy h→Has h0 h→p<h.nx→h.get p=some (.cells (aA .u64 D) 54 false)→∀x_:Nat→AV,
 ∃(D2:List Nat) (h2:ah),(∃y:Nat→AV,Ev env (aQ (d+2)) (.loop rB) ⟨((AV.slice p 0 N N op)::x::rx x_ 2 31 (y_::(ag m.length)::(ag k)::rx x_ 36 39 [])),h,[],.no⟩ (.exit 2) ⟨((AV.slice p 0 N N op)::rx y 1 74 []),h2,[],.no⟩)∧Tidy h2∧Has h0 h2∧h0.nx≤h2.nx∧h2.get p=some (.cells (aA .u64 D2) 54 false)∧D2.length=N∧Words D2∧ay D2=ay l*ay m
 | 0,k,h,D,hk,lD,w,hv,aw,a0,E9,hg,x_=>by
  rw[List.take_of_length_le o!] at hv
  have q1:=cI ((k:Int)<((m.length:Nat):Int))
  have ev:=pk (d+2) rB ((AV.slice p 0 N N op)::x::rx x_ 2 31 (y_::(ag m.length)::(ag k)::rx x_ 36 39 [])) h (.exit 2) h (VV (bh 3 false false .i64 (k:Int) ((m.length:Nat):Int))<|BB q1<|ZZ) k!
  exact ⟨D,h,cT (Ev.out ev) k!,aw,a0,by omega,hg,lD,w,hv⟩
 | r+1,k,h,D,hk,lD,w,hv,aw,a0,E9,hg,x_=>by
  have S5:N<2^28:=by omega
  have hkm:k<m.length:=by omega
  have hmk:=wm.getD k
  have hz0:D.getD (k+l.length) 0=0:=Wy (by
   rw[hv,Nat.add_comm k,Nat.pow_add]
   have h1:=kN (wm.take k)
   rw[List.length_take,Nat.min_eq_left o!] at h1
   exact Nat.mul_lt_mul_of_le_of_lt (Nat.le_of_lt (kN wl)) h1 (Nat.pow_pos (by decide)))
  have q1:=dg ((k:Int)<((m.length:Nat):Int))
  obtain ⟨p2,q3,yX,vp⟩:=((ny.has a0)).j8 (k:Int) (show k<m.length by omega)
  have sl6:=Wx (t:=56) (e:=54) (p:=p) (n:=N) (k:=k) (op:=op) k! k! o!
  obtain ⟨D1,cy,h7,ml,BK,EV,l1,w1,c1,v1,g1⟩:=PW (d:=d) (h:=h) (k:=k) (N:=N) (op:=op) hg lD w (nx.has a0) wl I2 (ao.off y0 nx I2 hp) o! hmk aw
  have eC:=BK.1
  have eJ:Kept p h h7:=BK.2.2
  have u8:=fX 3 false false k l.length o!
  obtain ⟨hi,⟨yi,xE⟩,Lz,ajQ,anp,amm⟩:=IQ (d:=d) (x:=x) (y_:=y_) (p:=p) (N:=N) (op:=op) (D:=D1) (m:=m) (k:=k) (j:=k+l.length) (c:=cy) S5 l1 w1 (by rw[g1];exact hz0) o! c1 eC o! BK.2.1 (fun k_=>(((AV.slice p 0 N N op)::x::rx x_ 2 5 ((ag k)::(ae (m.getD k 0))::(ae cy)::(ag (k+l.length))::rx x_ 11 22 (y_::(ag m.length)::(ag k)::(aj (decide ((k:Int)<((m.length:Nat):Int))))::(ag k)::(AV.ptr p2 q3)::(ae (m.getD k 0))::(AV.slice p 0 N N op)::(ag k)::(AV.slice p k (N - k) (N - k) op)::x::(ae (m.getD k 0))::(ae cy)::(ag k)::x::(ag l.length)::(ag (k+l.length))::rx x_ 50 25 []))):List AV).getD k_ aB)
  have SX:Kept p h hi:=eJ.trans ajQ
  have u9:=fX 3 false true k 1 o!
  have ev:=pk (d+2) rB ((AV.slice p 0 N N op)::x::rx x_ 2 31 (y_::(ag m.length)::(ag k)::rx x_ 36 39 [])) h .normal hi (VV (bh 3 false false .i64 (k:Int) ((m.length:Nat):Int))<|BB q1<|CC<|VV yX<|MM vp<|CN 4<|QQ sl6<|CN 2<|EE ml<|CN 3<|VV ((nx.has a0)).len<|VV u8<|CC<|LL xE<|VV u9<|CC<|ZZ) k!
  have Rl:ay (D1.set (k+l.length) cy)=ay l*ay (m.take (k+1)):=by
   have:=PU (v:=cy) (l:=D1) (i:=k+l.length) o!
   rw[g1,hz0,Nat.zero_mul,Nat.add_zero] at this
   rw[this,v1,hv,cM hkm,Nat.mul_add]
   congr 1
   ac_rfl
  exact bp (tin:=fun x_=>((AV.slice p 0 N N op)::x::rx x_ 2 31 (y_::(ag m.length)::(ag (k+1))::rx x_ 36 39 []))) ev k! fun x_=>vx y0 nx ny wl wm I2 ajP hN hp r (k+1) hi _ o! (by rw[List.length_set];exact l1) (w1.set c1) Rl Lz (Has.ak a0 SX y0 hp) o! amm x_
theorem HZ {d:Nat} {h:ah} {x y_:AV} {l m:List Nat} (nx:ao env h .u64 54 x l) (ny:ao env h .u64 54 y_ m) (wl:Words l) (wm:Words m) (hm0:0<m.length) (hlm:m.length≤l.length) (S5:l.length+m.length<2^28) (aw:Tidy h):
 ∃z hk D,aQ (d+3) (.fn 88) [.ax,x,y_] h= .ret z hk∧Grow h hk∧ao env hk .u64 54 z D∧Words D∧ay D=ay l*ay m∧D.length=l.length+m.length∧mm h z:=by
 have I2:0<l.length:=by omega
 obtain ⟨N,hN⟩:∃N,N=l.length+m.length:=⟨_,rfl⟩
 have hN1:0<N:=by omega
 have q1:=cI (((l.length:Nat):Int)<((m.length:Nat):Int))
 have q2:=cI (((m.length:Nat):Int)=0)
 obtain ⟨zz,h1,⟨ya,Cu⟩,aK,aD,aO,oz⟩:=uc (d:=d) (h0:=h) (x:=x) (y_:=y_) aw nx ny S5 hN N 0 h .ax o! (.inl ⟨rfl,rfl⟩) aw (Has.refl _) (Nat.le_refl _) (fun k_=>((bE::x::y_::aB::aB::aB::bE::aB::aB::aB::aB::x::(ag l.length)::y_::(ag m.length)::(aj (decide (((l.length:Nat):Int)<((m.length:Nat):Int))))::aB::aB::y_::(ag m.length)::(aj (decide (((m.length:Nat):Int)=0)))::aV 54):List AV).getD k_ aB)
 obtain ⟨p,op,rfl,hp,XQ⟩:=Wz hN1 oz
 obtain ⟨D2,h2,⟨yb,PX⟩,bP,b7,bD,SG,l2,w2,v2⟩:=vx (d:=d) (h0:=h) (x:=x) (y_:=y_) (op:=op) aw nx ny wl wm I2 S5 hN hp m.length 0 h1 (List.replicate N 0) o! (by simp) (fun q hq=>by rw[(List.mem_replicate.1 hq).2];decide) (by rw[PV];simp [ay]) aK aD (by have:=aK _ _ XQ;exact this) XQ (fun k_=>(((AV.slice p 0 N N op)::x::y_::rx ya 3 30 (y_::(ag m.length)::(af 0)::rx ya 36 39 [])):List AV).getD k_ aB)
 have ev:=pk (d+2) jd (bE::x::y_::aV 72) h .ret h2 (CN 2<|VV (nx).len<|CC<|VV (ny).len<|VV (bh 3 false false .i64 ((l.length:Nat):Int) ((m.length:Nat):Int))<|BB q1<|CC<|VV (ny).len<|VV (bQ 3 false true .i64 ((m.length:Nat):Int) 0)<|BB q2<|LL Cu<|CC<|VV (ny).len<|CC<|LL PX<|CN 2<|ZZ) k!
 have nz:ao env h2 .u64 54 (.slice p 0 N N op) D2:=by
  subst l2
  exact ao.of k! k! o! (Nat.le_refl _) (fun _=>by omega) SG fun i z hz=>by rw[Nat.zero_add];exact dP hz
 have nw:mm h (.slice p 0 N N op):=mm.slice hp
 obtain ⟨hk,k1,k2,k3⟩:=aU rfl (az Tryz.func88 LN k! (.inr rfl) ev k!) aw ⟨bP,b7,bD⟩ (P:=fun hh=>ao env hh .u64 54 (.slice p 0 N N op) D2) nz fun v=>ao.back nz nw v
 exact ⟨_,hk,D2,k1,k2,k3,w2,v2,by omega,nw⟩
end Go.Proofs.aF
