import Derived.Test.YtkkpegaeikljmaaGreatDoorA6
import Derived.Test.YtkkpegaeikljmaaGreatDoorW0
import Derived.Test.YtkkpegaeikljmaaGreatDoorEnv
import Derived.Test.YtkkpegaeikljmaaGreatDoorW16
import Derived.Test.YtkkpegaeikljmaaGreatDoorW15
import Derived.Test.YtkkpegaeikljmaaGreatDoorW12
import Derived.Test.YtkkpegaeikljmaaGreatDoorW1
import Derived.Test.YtkkpegaeikljmaaGreatDoorW13
import Derived.Test.YtkkpegaeikljmaaGreatDoorW14
namespace Go.Proofs.aF
open Go.Proofs Ab
set_option maxRecDepth 100000
set_option maxHeartbeats 4000000
set_option linter.unusedVariables false
set_option linter.unusedSimpArgs false
noncomputable def cH:Code:=(Tryz.f5.body).getD .skip
theorem fQ:Tryz.f5.body=some cH:=by kernel_rfl
theorem Cz {c:UInt8}:∀{s:List UInt8},(cutAt c s).2.2=false→(cutAt c s).1=s
 | [],_=>rfl
 | x::s,h=>by
  rw[cutAt] at h ⊢
  split at h
  · cases h
  · rename_i q
    rw[if_neg q]
    have ih:=Cz (c:=c) (s:=s) h
    show x::(cutAt c s).1=x::s
    rw[ih]
theorem yT {sg:Int} {D:Nat} (h:sg=(if aq D=[] then 0 else if false=true then -1 else 1)):sg=0↔D=0:=by
 by_cases q:aq D=[]
 · rw[if_pos q] at h;exact ⟨fun _=>dZ.1 q,fun _=>h⟩
 · rw[if_neg q] at h
   refine ⟨fun e=>?_,fun e=>absurd (dZ.2 e) q⟩
   rw[e] at h;cases h
theorem UP {A:Nat} {nx:Bool} (h:decide (0<(((aq A).length:Nat):Int))=nx):(true&&decide (A≠0))=nx:=by
 rw[←h,Bool.true_and]
 by_cases q:A=0
 · rw[decide_eq_false (fun e=>e q),q,cO];rfl
 · rw[decide_eq_true q]
   have:0<(aq A).length:=List.length_pos_iff.2 fun e=>q (dZ.1 e)
   exact (decide_eq_true o!).symm
theorem pV {s:List UInt8} {X n:Nat} (hd:jy (cL s)) (hX:X=bJ (cL s)) (h:s.length<n):(aq X).length<n:=by
 have h1:=pC hd
 have h2:(aq X).length≤(cL s).length:=gZ (Nat.lt_of_lt_of_le (hX▸h1) (Nat.pow_le_pow_left (by decide) _))
 rw[fM] at h2
 omega
theorem pW {s:List UInt8} {X n:Nat} (hd:jy (cL s)) (hX:X=bJ (cL s)) (h:s.length≤n):X<10^n:=by
 have h1:=pC hd
 rw[fM] at h1
 rw[hX]
 exact Nat.lt_of_lt_of_le h1 (Nat.pow_le_pow_right (by decide) h)
theorem afn {k n:Nat} (h:k<n):10^k<10^n:=Nat.pow_lt_pow_right (by decide) h
theorem WG {n m:Nat} (h:n+1<m):(aq (10^n)).length<m:=by
 have:(aq (10^n)).length≤n+1:=gZ (Nat.lt_of_lt_of_le (Nat.pow_lt_pow_right (by decide) (Nat.lt_succ_self n)) (Nat.pow_le_pow_left (by decide) _))
 omega
theorem LV {d:Nat} {h:ah} {w0 w1 w2 w3:Int} {far:AV} {X:Nat} {b:Bool} (w:cj h [.bool false,.int .u64 w0,.int .u64 w1,.int .u64 w2,.int .u64 w3,far,.int .i64 ((aq X).length:Nat)] false (aq X)) (aw:Tidy h) (hb:decide (0<(((aq X).length:Nat):Int))=b):
 aQ (d+1) (.fn 22) [.agg [.bool false,.int .u64 w0,.int .u64 w1,.int .u64 w2,.int .u64 w3,far,.int .i64 ((aq X).length:Nat)]] h= .ret (.agg [.bool b,.int .u64 w0,.int .u64 w1,.int .u64 w2,.int .u64 w3,far,.int .i64 ((aq X).length:Nat)]) h:=by
 obtain ⟨_,_,_,_,us,al8,e,sc,wf,hc⟩:=w
 simp only[List.cons.injEq,AV.int.injEq,and_true,true_and] at e
 obtain ⟨rfl,rfl,rfl,rfl,rfl,rfl⟩:=e
 obtain ⟨h1,h2,h3,h4,ev,y1,a1,_,g1,g2⟩:=Hg (call:=aQ d) (mi:=false) (w0:=w0) (w1:=w1) (w2:=w2) (w3:=w3) (far:=far) (us:=((aq X).length:Nat)) aw (Nat.zero_le _) rfl sc
 rw[hb] at g1 g2 ev
 exact ai rfl (bn (a:=2) (t:=60) (v:=AV.agg [AV.bool b,AV.int .u64 w0,AV.int .u64 w1,AV.int .u64 w2,AV.int .u64 w3,far,AV.int .i64 ((aq X).length:Nat)]) Tryz.func22 JD k! (.inr rfl) ev k! (aN g2 k!)) a1 (by rw[Hk];exact wf)
theorem abB {d:Nat} {h:ah} {s:List UInt8} {f:TypeId} {ro:Bool} (hs:s.length≤20000) (hG:h.get 1=some (.cells (aA .u64 pb) f ro)) (aw:Tidy h):aQ (d+41) (.fn 5) [.str s] h= .ret (.tuple [.str (dJ s).1,.int .i64 (((dJ s).2:Nat):Int)]) h:=by
 obtain ⟨t,ht⟩:∃t,t=aH s:=⟨_,rfl⟩
 obtain ⟨ng,hZ⟩:∃ng,ng=decide (s.head?=some 45):=⟨_,rfl⟩
 obtain ⟨ab,fW⟩:∃ab,ab=(cutAt 47 (aH s)).1:=⟨_,rfl⟩
 obtain ⟨be,h_⟩:∃be,be=(cutAt 47 (aH s)).2.1:=⟨_,rfl⟩
 obtain ⟨sp,ic⟩:∃sp,sp=(cutAt 47 (aH s)).2.2:=⟨_,rfl⟩
 obtain ⟨wh,rQ⟩:∃wh,wh=(cutAt 46 (aH s)).1:=⟨_,rfl⟩
 obtain ⟨pt,rR⟩:∃pt,pt=(cutAt 46 (aH s)).2.1:=⟨_,rfl⟩
 obtain ⟨dc,sy⟩:∃dc,dc=(cutAt 46 (aH s)).2.2:=⟨_,rfl⟩
 have hlu:(aH s).length≤s.length:=by unfold aH;split<;>simp
 obtain ⟨l1,l2⟩:=jT 47 (aH s)
 rw[←fW] at l1
 rw[←h_] at l2
 obtain ⟨l3,l4⟩:=jT 46 (aH s)
 rw[←rQ] at l3
 rw[←rR] at l4
 obtain ⟨da,jL⟩:∃da,da=nu ab:=⟨_,rfl⟩
 obtain ⟨db,kj⟩:∃db,db=nu be:=⟨_,rfl⟩
 obtain ⟨dw,sB⟩:∃dw,dw=nu wh:=⟨_,rfl⟩
 obtain ⟨dp,sC⟩:∃dp,dp=nu pt:=⟨_,rfl⟩
 obtain ⟨dt,oW⟩:∃dt,dt=nu (aH s):=⟨_,rfl⟩
 have kda:∀hh,Tidy hh→aQ (d+40) (.fn 17) [.str ab] hh= .ret (.bool da) hh:=fun hh y=>by rw[jL];exact mD (d:=d+39) ab o! y (Nat.zero_le _)
 have kdb:∀hh,Tidy hh→aQ (d+40) (.fn 17) [.str be] hh= .ret (.bool db) hh:=fun hh y=>by rw[kj];exact mD (d:=d+39) be o! y (Nat.zero_le _)
 have kdw:∀hh,Tidy hh→aQ (d+40) (.fn 17) [.str wh] hh= .ret (.bool dw) hh:=fun hh y=>by rw[sB];exact mD (d:=d+39) wh o! y (Nat.zero_le _)
 have kdp:∀hh,Tidy hh→aQ (d+40) (.fn 17) [.str pt] hh= .ret (.bool dp) hh:=fun hh y=>by rw[sC];exact mD (d:=d+39) pt o! y (Nat.zero_le _)
 have kP:∀hh,aQ (d+40) (.fn 15) [.str s,.str [45]] hh= .ret (.tuple [.str t,.bool ng]) hh:=fun hh=>by rw[ht,hZ];exact Eu (d:=d+37)
 have kC:∀hh,aQ (d+40) (.fn 16) [.str t,.str [47]] hh= .ret (.tuple [.str ab,.str be,.bool sp]) hh:=fun hh=>by rw[fW,h_,ic,ht];exact aaO (d:=d+36) o!
 have kE:∀hh,aQ (d+40) (.fn 16) [.str t,.str [46]] hh= .ret (.tuple [.str wh,.str pt,.bool dc]) hh:=fun hh=>by rw[rQ,rR,sy,ht];exact agK (d:=d+36) o!
 obtain ⟨A1,pe⟩:∃A1,A1=bJ (cL ab):=⟨_,rfl⟩
 obtain ⟨B,hB⟩:∃B,B=bJ (cL be):=⟨_,rfl⟩
 obtain ⟨W,hW⟩:∃W,W=bJ (cL (wh++pt)):=⟨_,rfl⟩
 obtain ⟨Wh,hWh⟩:∃Wh,Wh=bJ (cL wh):=⟨_,rfl⟩
 obtain ⟨T1,s7⟩:∃T1,T1=bJ (cL (aH s)):=⟨_,rfl⟩
 have ag5:bJ (cL ab)=A1:=pe.symm
 have aj0:bJ (cL be)=B:=hB.symm
 have amq:bJ (cL wh)=Wh:=hWh.symm
 obtain ⟨A,hAA⟩:∃A,A=bif sp then A1 else bif dc then W else A1:=⟨_,rfl⟩
 obtain ⟨D,Ft⟩:∃D,D=bif sp then B else bif dc then 10^pt.length else 1:=⟨_,rfl⟩
 obtain ⟨sg,hsg⟩:∃sg:Int,sg=(if aq D=[] then 0 else if false=true then -1 else 1):=⟨_,rfl⟩
 obtain ⟨nx,po⟩:∃nx,decide (0<(((aq A).length:Nat):Int))=nx:=⟨_,rfl⟩
 obtain ⟨tx,zB⟩:∃tx,tx=pc ng A D:=⟨_,rfl⟩
 have PE:=R0|>Rn 3|>Re (show (aQ (d+40)) (.fn 15) [(AV.str s),(AV.str [45])] h= .ret (AV.tuple [(AV.str t),(aj ng)]) h from (kP _))|>Rn 6|>Re (show (aQ (d+40)) (.fn 16) [(AV.str t),(AV.str [47])] h= .ret (AV.tuple [(AV.str ab),(AV.str be),(aj sp)]) h from (kC _))|>Rn 8|>Re (show (aQ (d+40)) (.fn 16) [(AV.str t),(AV.str [46])] h= .ret (AV.tuple [(AV.str wh),(AV.str pt),(aj dc)]) h from (kE _))|>Rn 9
 rcases Bool.eq_false_or_eq_true dc with f0 | f0
 · have jV:dc=true:=f0
   have q1:dc=true:=d!
   have r2_:=PE|>Rb q1|>Rc|>Rb q1|>Rc|>Rv (aG (a:=some (aj (!sp))) (b:=some (aj false)) q1)
   rcases Bool.eq_false_or_eq_true (!sp) with f1 | f1
   · have cn:sp=false:=by simpa using f1
     have q2:(!sp)=true:=d!
     have r3_:=r2_|>Rb q2|>Rn 5|>Re (show (aQ (d+40)) (.fn 17) [(AV.str wh)] h= .ret (aj dw) h from (kdw _ aw))|>Rn 2
     rcases Bool.eq_false_or_eq_true (!dw) with f2 | f2
     · have vO:dw=false:=by simpa using f2
       have q3:(!dw)=true:=d!
       have ev:=nf (d+40) cH ((AV.str s)::aV 83) h .ret h (r3_|>Rb q3|>Rb q3|>Rb q3|>Rb q3|>Rb q3|>Rv (aG (a:=some (aj true)) (b:=some aB) q3)|>Rt|>Rn 2) k!
       have eR:dJ s=([],4):=by rw[bF fW h_ ic rQ rR sy jL kj sB sC oW hZ pe hB hW s7,cn,jV,vO];rfl
       rw[eR]
       exact ai rfl (az Tryz.func5 fQ k! (.inr rfl) ev k!) (Has.refl _) rfl
     · have vO:dw=true:=by simpa using f2
       have dgw:=d_ (show nu wh=true by rw[←sB];exact vO)
       have q3:(!dw)=false:=d!
       have q4:sp=false:=d!
       have r4_:=r3_|>Rb q3|>Rc|>Rb q3|>Rc|>Rb q4|>Rc|>Rb q3|>Rv (aL (a:=some (aj true)) (b:=some (aj dc)) q4)|>Rb q3|>Rc|>Rb q1|>Rc|>Rb q1|>Re (show (aQ (d+40)) (.fn 17) [(AV.str pt)] h= .ret (aj dp) h from (kdp _ aw))|>Rb q1|>Rc|>Rb q3|>Rv (aG (a:=some (aj (!dp))) (b:=some (aj false)) q1)|>Rv (aL (a:=some (aj true)) (b:=some (aj (!dp))) q3)
       rcases Bool.eq_false_or_eq_true (!dp) with f3 | f3
       · have AZ:dp=false:=by simpa using f3
         have q5:(!dp)=true:=d!
         have ev:=nf (d+40) cH ((AV.str s)::aV 83) h .ret h (r4_|>Rb q5|>Rn 2) k!
         have eR:dJ s=([],4):=by rw[bF fW h_ ic rQ rR sy jL kj sB sC oW hZ pe hB hW s7,cn,jV,vO,AZ];rfl
         rw[eR]
         exact ai rfl (az Tryz.func5 fQ k! (.inr rfl) ev k!) (Has.refl _) rfl
       · have AZ:dp=true:=by simpa using f3
         have dgp:=d_ (show nu pt=true by rw[←sC];exact AZ)
         have oC:A=W:=by rw[hAA,cn,jV];rfl
         have oO:D=10^pt.length:=by rw[Ft,cn,jV];rfl
         have S4:=HW dgw dgp
         have amr:bJ (cL (wh++pt))=W:=hW.symm
         have lwp:(wh++pt).length=wh.length+pt.length:=by simp
         have afo:sg=(if aq (10^pt.length)=[] then 0 else if false=true then -1 else 1):=by rw[hsg,oO]
         have abC:decide (0<(((aq W).length:Nat):Int))=nx:=by rw[←oC];exact po
         have ams:W=0→nx=false:=fun e0=>by rw[←abC,e0,cO];rfl
         have aj1:(aq W).length<134217728:=pV S4 hW o!
         have aj2:W<10^40000:=pW (n:=40000) S4 hW o!
         have ag6:(10^pt.length)≠0:=Nat.pos_iff_ne_zero.1 (Nat.pow_pos (by decide))
         have aj3:(aq (10^pt.length)).length<134217728:=WG o!
         have aj4:10^pt.length<10^40000:=afn (k:=pt.length) (n:=40000) o!
         have q5:(!dp)=false:=d!
         have u6:=fX 3 false false (List.length wh) (List.length pt) o!
         have q7:(decide (50000<(((List.length wh)+(List.length pt):Nat):Int)))=false:=d!
         obtain ⟨cx,h8,Hc,xK,zx⟩:=dk (d:=d+36) (s:=wh) (by first | omega | (simp;omega)) dgw aw
         have eQ:=xK.y
         have aaa:=xK.n
         rw[amq] at zx
         obtain ⟨du,dx,dy,dz,aW,rfl,LA,xhc,xhf⟩:=id zx
         have jl:=xK.a
         obtain ⟨co,h9,Dq,qO,zo⟩:=uN (d:=d+36) (k:=1) o! eQ
         have gR:=qO.y
         have aai:=qO.n
         obtain ⟨QA,QB,QC,QD,s5,rfl,osc,ohc,ohf⟩:=id zo
         have nm:=jl.trans qO.a
         have CA:=qO.a
         obtain ⟨lx,P4,dE,wU,qH,vy⟩:=de gR (ar.cells (au false 0 0 0 0 bE 0) 60 false)
         have dm:=nm.trans vy
         have ry:=CA.trans vy
         have H5:Has h9 lx:=vy
         obtain ⟨ki,GZ,cS,xa,iD,qG⟩:=de dE (ar.cells (au false 0 0 0 0 bE 0) 60 false)
         have cP:=dm.trans qG
         have xP:=ry.trans qG
         have rv:=H5.trans qG
         have aah:AV.scalar aW=true:=LA
         obtain ⟨sZ,qN,dH,vr,gS,fh⟩:=b9 (t:=60) (n:=7) (i:=h9.nx) (L:=(bz false du dx dy dz aW ((aq Wh).length))) cS (qG _ _ qH) k! rfl rfl z!
         have dV:=Has.ak cP fh aw o!
         have H6:=Has.ak xP fh eQ o!
         have H7:=Has.ak rv fh gR o!
         have V9:AV.scalar s5=true:=osc
         obtain ⟨pP,jc,dS,oZ,fE,ff⟩:=b9 (t:=60) (n:=7) (i:=lx.nx) (L:=(bz false QA QB QC QD s5 ((aq 1).length))) dH (fh _ _ o! iD) k! rfl rfl z!
         have fm:=Has.ak dV ff aw o!
         have H8:=Has.ak H6 ff eQ o!
         have H9:=Has.ak H7 ff gR o!
         have u16:=rP 9 false false wh pt (by first | omega | (simp;omega))
         obtain ⟨cv,E0,BY,gG,zv⟩:=dk (d:=d+36) (s:=wh++pt) (by first | omega | (simp;omega)) S4 dS
         have ij:=gG.y
         have aaf:=gG.n
         rw[amr] at zv
         obtain ⟨vw0,W8,W9,vw3,WH,rfl,vsc,vhc,vhf⟩:=id zv
         have iE:=fm.trans gG.a
         have ug:=H8.trans gG.a
         have CB:=H9.trans gG.a
         obtain ⟨cq,h18,aa4,nB,zq⟩:=acQ (d:=d+36) (n:=pt.length) o! ij
         have xk:=nB.y
         have ajs:=nB.n
         obtain ⟨qw0,qw1,qw2,qw3,abD,rfl,qsc,qhc,qhf⟩:=id zq
         have zU:=iE.trans nB.a
         have abE:=ug.trans nB.a
         have abF:=CB.trans nB.a
         have DE:=nB.a
         have anu:AV.scalar WH=true:=vsc
         obtain ⟨Fo,BZ,tJ,Jz,xh,jn⟩:=b9 (t:=60) (n:=7) (i:=h9.nx) (L:=(bz false vw0 W8 W9 vw3 WH ((aq W).length))) xk (nB.a _ _ (gG.a _ _ (ff _ _ o! gS))) k! rfl rfl z!
         have tK:=Has.ak zU jn aw o!
         have abG:=Has.ak abE jn eQ o!
         have abH:=Has.ak abF jn gR o!
         have anv:AV.scalar abD=true:=qsc
         obtain ⟨KS,qt,r9,M5,P5,js⟩:=b9 (t:=60) (n:=7) (i:=lx.nx) (L:=(bz false qw0 qw1 qw2 qw3 abD ((aq (10^pt.length)).length))) tJ (jn _ _ o! (nB.a _ _ (gG.a _ _ fE))) k! rfl rfl z!
         have zZ:=Has.ak tK js aw o!
         have uh:=Has.ak abG js eQ o!
         have CD:=Has.ak abH js gR o!
         have ksg:=Hh (d:=d+39) ((zq.kept jn o! o!).kept js o! o!).whole r9 (Nat.zero_le _)
         rw[←afo] at ksg
         have r5_:=r4_|>Rb q5|>Rn 4|>Rv u6|>Rv (bM 3 false true .i64 (((List.length wh)+(List.length pt):Nat):Int) 50000)|>Rb q7|>Rc|>Re Hc|>Re Dq|>Ra P4 (fun i=>(AV.ptr i 0))|>Ra GZ (fun i=>(AV.ptr i 0))|>Rs qN|>Rs jc|>Rc|>Rb q4|>Rc|>Rb q1|>Rn 2|>Rv u16|>Re BY|>Rn 2|>Re aa4|>Rs BZ|>Rs qt|>Rm (aJ 60 0 (AV.agg (bz false qw0 qw1 qw2 qw3 abD ((aq (10^pt.length)).length))) P5 k!)|>Re ksg|>Rv (bQ 3 false true .i64 sg 0)
         rcases Bool.eq_false_or_eq_true (decide (sg=0)) with f5 | f5
         · exact absurd (yT afo|>.1 (of_decide_eq_true f5)) ag6
         · have q23:(decide (sg=0))=false:=d!
           have r6_:=r5_|>Rb q23|>Rc
           rcases Bool.eq_false_or_eq_true ng with f6 | f6
           · have ru:ng=true:=f6
             have s6:eT nx (W/Nat.gcd W (10^pt.length)) ((10^pt.length) /Nat.gcd W (10^pt.length))=tx:=by rw[zB,oC,oO,pc,ru,UP abC]
             have q24:ng=true:=d!
             have kng:=LV (d:=d+39) (X:=W) (((zv.grow DE o!).kept jn o! o!).kept js o! o!).whole r9 abC
             obtain ⟨Ub,wZ,qF,Jx,tS,DF⟩:=b9 (t:=60) (n:=7) (i:=h9.nx) (L:=(bz nx vw0 W8 W9 vw3 WH ((aq W).length))) r9 (js _ _ o! xh) k! rfl rfl z!
             have o7:=Has.ak zZ DF aw o!
             have abI:=Has.ak uh DF eQ o!
             have abJ:=Has.ak CD DF gR o!
             obtain ⟨cr,h26,aj5,abK,wr⟩:=lZ (d:=d+30) (((((zv.grow DE o!).kept jn o! o!).kept js o! o!).kept DF o! o!).sign (m':=nx)).whole (((zq.kept jn o! o!).kept js o! o!).kept DF o! o!).whole aj1 aj3 ag6 ams qF
             have JA:=abK.y
             have amY:=abK.n
             have B0:=o7.trans abK.a
             have kT:=xO (d:=d+10) wr (Nat.lt_of_le_of_lt (Nat.div_le_self _ _) aj2) (Nat.lt_of_le_of_lt (Nat.div_le_self _ _) aj4) (B0 _ _ hG) JA
             rw[s6] at kT
             have ev:=nf (d+40) cH ((AV.str s)::aV 83) h .ret h26 (r6_|>Rb q24|>Rm (aJ 60 0 (AV.agg (bz false vw0 W8 W9 vw3 WH ((aq W).length))) (js _ _ o! xh) k!)|>Re kng|>Rs wZ|>Rm (aJ 60 0 (AV.agg (bz nx vw0 W8 W9 vw3 WH ((aq W).length))) tS k!)|>Rm (aJ 60 0 (AV.agg (bz false qw0 qw1 qw2 qw3 abD ((aq (10^pt.length)).length))) (DF _ _ o! P5) k!)|>Re aj5|>Re kT|>Rn 4) k!
             have eR:dJ s=(tx,0):=by rw[bF fW h_ ic rQ rR sy jL kj sB sC oW hZ pe hB hW s7,cn,jV,vO,AZ,zB,oC,oO];rfl
             rw[eR]
             exact ai rfl (az Tryz.func5 fQ k! (.inr rfl) ev k!) B0 rfl
           · have ru:ng=false:=f6
             have s6:eT false (W/Nat.gcd W (10^pt.length)) ((10^pt.length) /Nat.gcd W (10^pt.length))=tx:=by rw[zB,oC,oO,pc,ru];rfl
             have q24:ng=false:=d!
             obtain ⟨cr,Ub,aj6,P6,wr⟩:=lZ (d:=d+30) ((((zv.grow DE o!).kept jn o! o!).kept js o! o!).sign (m':=false)).whole ((zq.kept jn o! o!).kept js o! o!).whole aj1 aj3 ag6 (fun _=>rfl) r9
             have qF:=P6.y
             have amZ:=P6.n
             have o7:=zZ.trans P6.a
             have abI:=uh.trans P6.a
             have abJ:=CD.trans P6.a
             have kT:=xO (d:=d+10) wr (Nat.lt_of_le_of_lt (Nat.div_le_self _ _) aj2) (Nat.lt_of_le_of_lt (Nat.div_le_self _ _) aj4) (o7 _ _ hG) qF
             rw[s6] at kT
             have ev:=nf (d+40) cH ((AV.str s)::aV 83) h .ret Ub (r6_|>Rb q24|>Rm (aJ 60 0 (AV.agg (bz false vw0 W8 W9 vw3 WH ((aq W).length))) (js _ _ o! xh) k!)|>Rm (aJ 60 0 (AV.agg (bz false qw0 qw1 qw2 qw3 abD ((aq (10^pt.length)).length))) P5 k!)|>Re aj6|>Re kT|>Rn 4) k!
             have eR:dJ s=(tx,0):=by rw[bF fW h_ ic rQ rR sy jL kj sB sC oW hZ pe hB hW s7,cn,jV,vO,AZ,zB,oC,oO];rfl
             rw[eR]
             exact ai rfl (az Tryz.func5 fQ k! (.inr rfl) ev k!) o7 rfl
   · have cn:sp=true:=by simpa using f1
     have q2:(!sp)=false:=d!
     have r7_:=r2_|>Rb q2|>Rc|>Re (show (aQ (d+40)) (.fn 17) [(AV.str ab)] h= .ret (aj da) h from (kda _ aw))|>Rn 2
     rcases Bool.eq_false_or_eq_true (!da) with f2 | f2
     · have eV:da=false:=by simpa using f2
       have q3:(!da)=true:=d!
       have ev:=nf (d+40) cH ((AV.str s)::aV 83) h .ret h (r7_|>Rb q3|>Rb q3|>Rb q3|>Rb q3|>Rb q3|>Rv (aG (a:=some (aj true)) (b:=some aB) q3)|>Rt|>Rn 2) k!
       have eR:dJ s=([],4):=by rw[bF fW h_ ic rQ rR sy jL kj sB sC oW hZ pe hB hW s7,cn,eV];rfl
       rw[eR]
       exact ai rfl (az Tryz.func5 fQ k! (.inr rfl) ev k!) (Has.refl _) rfl
     · have eV:da=true:=by simpa using f2
       have CJ:=d_ (show nu ab=true by rw[←jL];exact eV)
       have q3:(!da)=false:=d!
       have q4:sp=true:=d!
       have r8_:=r7_|>Rb q3|>Rc|>Rb q3|>Rc|>Rb q4|>Rb q3|>Rv (aG (a:=some (aj true)) (b:=some aB) q4)|>Rb q3|>Rc|>Rt|>Rc|>Rt|>Re (show (aQ (d+40)) (.fn 17) [(AV.str be)] h= .ret (aj db) h from (kdb _ aw))|>Rt|>Rc|>Rb q3|>Rc|>Rv (aL (a:=some (aj true)) (b:=some (aj (!db))) q3)
       rcases Bool.eq_false_or_eq_true (!db) with f3 | f3
       · have jr:db=false:=by simpa using f3
         have q5:(!db)=true:=d!
         have ev:=nf (d+40) cH ((AV.str s)::aV 83) h .ret h (r8_|>Rb q5|>Rn 2) k!
         have eR:dJ s=([],4):=by rw[bF fW h_ ic rQ rR sy jL kj sB sC oW hZ pe hB hW s7,cn,eV,jr];rfl
         rw[eR]
         exact ai rfl (az Tryz.func5 fQ k! (.inr rfl) ev k!) (Has.refl _) rfl
       · have jr:db=true:=by simpa using f3
         have LK:=d_ (show nu be=true by rw[←kj];exact jr)
         have oC:A=A1:=by rw[hAA,cn];rfl
         have oO:D=B:=by rw[Ft,cn];rfl
         have H_:sg=(if aq B=[] then 0 else if false=true then -1 else 1):=by rw[hsg,oO]
         have xQ:decide (0<(((aq A1).length:Nat):Int))=nx:=by rw[←oC];exact po
         have abL:A1=0→nx=false:=fun e0=>by rw[←xQ,e0,cO];rfl
         have P7:(aq A1).length<134217728:=pV CJ pe o!
         have P9:A1<10^40000:=pW (n:=40000) CJ pe o!
         have abM:(aq B).length<134217728:=pV LK hB o!
         have abN:B<10^40000:=pW (n:=40000) LK hB o!
         have q5:(!db)=false:=d!
         have u6:=fX 3 false false (List.length ab) (List.length be) o!
         have q7:(decide (50000<(((List.length ab)+(List.length be):Nat):Int)))=false:=d!
         obtain ⟨cx,h8,Hc,xK,zx⟩:=dk (d:=d+36) (s:=ab) (by first | omega | (simp;omega)) CJ aw
         have eQ:=xK.y
         have aaa:=xK.n
         rw[ag5] at zx
         obtain ⟨du,dx,dy,dz,aW,rfl,LA,xhc,xhf⟩:=id zx
         have jl:=xK.a
         obtain ⟨co,h9,Dq,qO,zo⟩:=uN (d:=d+36) (k:=1) o! eQ
         have gR:=qO.y
         have aai:=qO.n
         obtain ⟨QA,QB,QC,QD,s5,rfl,osc,ohc,ohf⟩:=id zo
         have nm:=jl.trans qO.a
         have CA:=qO.a
         obtain ⟨lx,P4,dE,wU,qH,vy⟩:=de gR (ar.cells (au false 0 0 0 0 bE 0) 60 false)
         have dm:=nm.trans vy
         have ry:=CA.trans vy
         have H5:Has h9 lx:=vy
         obtain ⟨ki,GZ,cS,xa,iD,qG⟩:=de dE (ar.cells (au false 0 0 0 0 bE 0) 60 false)
         have cP:=dm.trans qG
         have xP:=ry.trans qG
         have rv:=H5.trans qG
         have aah:AV.scalar aW=true:=LA
         obtain ⟨sZ,qN,dH,vr,gS,fh⟩:=b9 (t:=60) (n:=7) (i:=h9.nx) (L:=(bz false du dx dy dz aW ((aq A1).length))) cS (qG _ _ qH) k! rfl rfl z!
         have dV:=Has.ak cP fh aw o!
         have H6:=Has.ak xP fh eQ o!
         have H7:=Has.ak rv fh gR o!
         have V9:AV.scalar s5=true:=osc
         obtain ⟨pP,jc,dS,oZ,fE,ff⟩:=b9 (t:=60) (n:=7) (i:=lx.nx) (L:=(bz false QA QB QC QD s5 ((aq 1).length))) dH (fh _ _ o! iD) k! rfl rfl z!
         have fm:=Has.ak dV ff aw o!
         have H8:=Has.ak H6 ff eQ o!
         have H9:=Has.ak H7 ff gR o!
         obtain ⟨cb,Uk,abO,rF,zb⟩:=dk (d:=d+36) (s:=be) (by first | omega | (simp;omega)) LK dS
         have mL:=rF.y
         have aj7:=rF.n
         rw[aj0] at zb
         obtain ⟨qP,qQ,qR,qS,fH,rfl,bsc,bhc,bhf⟩:=id zb
         have nv:=fm.trans rF.a
         have CE:=H8.trans rF.a
         have abP:=H9.trans rF.a
         have amj:AV.scalar fH=true:=bsc
         obtain ⟨E0,tM,ij,G4,mN,lB⟩:=b9 (t:=60) (n:=7) (i:=lx.nx) (L:=(bz false qP qQ qR qS fH ((aq B).length))) mL (rF.a _ _ fE) k! rfl rfl z!
         have iE:=Has.ak nv lB aw o!
         have ug:=Has.ak CE lB eQ o!
         have CB:=Has.ak abP lB gR o!
         have ksg:=Hh (d:=d+39) (zb.kept lB o! o!).whole ij (Nat.zero_le _)
         rw[←H_] at ksg
         have r9_:=r8_|>Rb q5|>Rn 4|>Rv u6|>Rv (bM 3 false true .i64 (((List.length ab)+(List.length be):Nat):Int) 50000)|>Rb q7|>Rc|>Re Hc|>Re Dq|>Ra P4 (fun i=>(AV.ptr i 0))|>Ra GZ (fun i=>(AV.ptr i 0))|>Rs qN|>Rs jc|>Rc|>Rb q4|>Rc|>Re abO|>Rs tM|>Rm (aJ 60 0 (AV.agg (bz false qP qQ qR qS fH ((aq B).length))) mN k!)|>Re ksg|>Rv (bQ 3 false true .i64 sg 0)
         rcases Bool.eq_false_or_eq_true (decide (sg=0)) with f5 | f5
         · have Lx:(decide (sg=0))=true:=d!
           have ev:=nf (d+40) cH ((AV.str s)::aV 83) h .ret E0 (r9_|>Rb Lx|>Rn 2) k!
           have eR:dJ s=([],7):=by rw[bF fW h_ ic rQ rR sy jL kj sB sC oW hZ pe hB hW s7,cn,eV,jr];exact if_pos (yT H_|>.1 (of_decide_eq_true f5))
           rw[eR]
           exact ai rfl (az Tryz.func5 fQ k! (.inr rfl) ev k!) iE rfl
         · have LW:B≠0:=fun e0=>absurd (yT H_|>.2 e0) (of_decide_eq_false f5)
           have Lx:(decide (sg=0))=false:=d!
           have HM:=r9_|>Rb Lx|>Rc
           rcases Bool.eq_false_or_eq_true ng with f6 | f6
           · have ru:ng=true:=f6
             have s6:eT nx (A1/Nat.gcd A1 B) (B/Nat.gcd A1 B)=tx:=by rw[zB,oC,oO,pc,ru,UP xQ]
             have VY:ng=true:=d!
             have kng:=LV (d:=d+39) (X:=A1) (zx.grow ug o!).whole ij xQ
             obtain ⟨KS,qt,r9,M5,P5,js⟩:=b9 (t:=60) (n:=7) (i:=h9.nx) (L:=(bz nx du dx dy dz aW ((aq A1).length))) ij (lB _ _ o! (rF.a _ _ (ff _ _ o! gS))) k! rfl rfl z!
             have zZ:=Has.ak iE js aw o!
             have uh:=Has.ak ug js eQ o!
             have CD:=Has.ak CB js gR o!
             obtain ⟨cr,h22,aj8,abQ,wr⟩:=lZ (d:=d+30) ((zx.grow uh o!).sign (m':=nx)).whole ((zb.kept lB o! o!).kept js o! o!).whole P7 abM LW abL r9
             have BT:=abQ.y
             have am0:=abQ.n
             have zS:=zZ.trans abQ.a
             have kT:=xO (d:=d+10) wr (Nat.lt_of_le_of_lt (Nat.div_le_self _ _) P9) (Nat.lt_of_le_of_lt (Nat.div_le_self _ _) abN) (zS _ _ hG) BT
             rw[s6] at kT
             have ev:=nf (d+40) cH ((AV.str s)::aV 83) h .ret h22 (HM|>Rb VY|>Rm (aJ 60 0 (AV.agg (bz false du dx dy dz aW ((aq A1).length))) (lB _ _ o! (rF.a _ _ (ff _ _ o! gS))) k!)|>Re kng|>Rs qt|>Rm (aJ 60 0 (AV.agg (bz nx du dx dy dz aW ((aq A1).length))) P5 k!)|>Rm (aJ 60 0 (AV.agg (bz false qP qQ qR qS fH ((aq B).length))) (js _ _ o! mN) k!)|>Re aj8|>Re kT|>Rn 4) k!
             have eR:dJ s=(tx,0):=by rw[bF fW h_ ic rQ rR sy jL kj sB sC oW hZ pe hB hW s7,cn,eV,jr,zB,oC,oO];exact if_neg LW
             rw[eR]
             exact ai rfl (az Tryz.func5 fQ k! (.inr rfl) ev k!) zS rfl
           · have ru:ng=false:=f6
             have s6:eT false (A1/Nat.gcd A1 B) (B/Nat.gcd A1 B)=tx:=by rw[zB,oC,oO,pc,ru];rfl
             have VY:ng=false:=d!
             obtain ⟨cr,KS,abR,z6,wr⟩:=lZ (d:=d+30) ((zx.grow ug o!).sign (m':=false)).whole (zb.kept lB o! o!).whole P7 abM LW (fun _=>rfl) ij
             have r9:=z6.y
             have aj9:=z6.n
             have zZ:=iE.trans z6.a
             have uh:=ug.trans z6.a
             have CD:=CB.trans z6.a
             have kT:=xO (d:=d+10) wr (Nat.lt_of_le_of_lt (Nat.div_le_self _ _) P9) (Nat.lt_of_le_of_lt (Nat.div_le_self _ _) abN) (zZ _ _ hG) r9
             rw[s6] at kT
             have ev:=nf (d+40) cH ((AV.str s)::aV 83) h .ret KS (HM|>Rb VY|>Rm (aJ 60 0 (AV.agg (bz false du dx dy dz aW ((aq A1).length))) (lB _ _ o! (rF.a _ _ (ff _ _ o! gS))) k!)|>Rm (aJ 60 0 (AV.agg (bz false qP qQ qR qS fH ((aq B).length))) mN k!)|>Re abR|>Re kT|>Rn 4) k!
             have eR:dJ s=(tx,0):=by rw[bF fW h_ ic rQ rR sy jL kj sB sC oW hZ pe hB hW s7,cn,eV,jr,zB,oC,oO];exact if_neg LW
             rw[eR]
             exact ai rfl (az Tryz.func5 fQ k! (.inr rfl) ev k!) zZ rfl
 · have jV:dc=false:=f0
   have q1:dc=false:=d!
   have HN:=PE|>Rb q1|>Rb q1|>Rv (aL (a:=some aB) (b:=some (aj false)) q1)|>Rf|>Rc|>Re (show (aQ (d+40)) (.fn 17) [(AV.str ab)] h= .ret (aj da) h from (kda _ aw))|>Rn 2
   rcases Bool.eq_false_or_eq_true (!da) with f1 | f1
   · have eV:da=false:=by simpa using f1
     have q2:(!da)=true:=d!
     have ev:=nf (d+40) cH ((AV.str s)::aV 83) h .ret h (HN|>Rb q2|>Rb q2|>Rb q2|>Rb q2|>Rb q2|>Rv (aG (a:=some (aj true)) (b:=some aB) q2)|>Rt|>Rn 2) k!
     have eR:dJ s=([],4):=by
      rcases Bool.eq_false_or_eq_true sp with g1 | g1
      · rw[bF fW h_ ic rQ rR sy jL kj sB sC oW hZ pe hB hW s7,g1,eV];rfl
      · have abS:ab=aH s:=by rw[fW];exact Cz (by rw[←ic];exact g1)
        have Ct:dt=da:=by rw[oW,jL,abS]
        rw[bF fW h_ ic rQ rR sy jL kj sB sC oW hZ pe hB hW s7,g1,jV,Ct,eV];rfl
     rw[eR]
     exact ai rfl (az Tryz.func5 fQ k! (.inr rfl) ev k!) (Has.refl _) rfl
   · have eV:da=true:=by simpa using f1
     have CJ:=d_ (show nu ab=true by rw[←jL];exact eV)
     have q2:(!da)=false:=d!
     have aka:=HN|>Rb q2|>Rc|>Rb q2|>Rc
     rcases Bool.eq_false_or_eq_true sp with f2 | f2
     · have cn:sp=true:=f2
       have q3:sp=true:=d!
       have akb:=aka|>Rb q3|>Rb q2|>Rv (aG (a:=some (aj true)) (b:=some aB) q3)|>Rb q2|>Rc|>Rt|>Rc|>Rt|>Re (show (aQ (d+40)) (.fn 17) [(AV.str be)] h= .ret (aj db) h from (kdb _ aw))|>Rt|>Rc|>Rb q2|>Rc|>Rv (aL (a:=some (aj true)) (b:=some (aj (!db))) q2)
       rcases Bool.eq_false_or_eq_true (!db) with f3 | f3
       · have jr:db=false:=by simpa using f3
         have q4:(!db)=true:=d!
         have ev:=nf (d+40) cH ((AV.str s)::aV 83) h .ret h (akb|>Rb q4|>Rn 2) k!
         have eR:dJ s=([],4):=by rw[bF fW h_ ic rQ rR sy jL kj sB sC oW hZ pe hB hW s7,cn,eV,jr];rfl
         rw[eR]
         exact ai rfl (az Tryz.func5 fQ k! (.inr rfl) ev k!) (Has.refl _) rfl
       · have jr:db=true:=by simpa using f3
         have LK:=d_ (show nu be=true by rw[←kj];exact jr)
         have oC:A=A1:=by rw[hAA,cn];rfl
         have oO:D=B:=by rw[Ft,cn];rfl
         have H_:sg=(if aq B=[] then 0 else if false=true then -1 else 1):=by rw[hsg,oO]
         have xQ:decide (0<(((aq A1).length:Nat):Int))=nx:=by rw[←oC];exact po
         have abL:A1=0→nx=false:=fun e0=>by rw[←xQ,e0,cO];rfl
         have P7:(aq A1).length<134217728:=pV CJ pe o!
         have P9:A1<10^40000:=pW (n:=40000) CJ pe o!
         have abM:(aq B).length<134217728:=pV LK hB o!
         have abN:B<10^40000:=pW (n:=40000) LK hB o!
         have q4:(!db)=false:=d!
         have u5:=fX 3 false false (List.length ab) (List.length be) o!
         have q6:(decide (50000<(((List.length ab)+(List.length be):Nat):Int)))=false:=d!
         obtain ⟨cx,h7,ml,oM,zx⟩:=dk (d:=d+36) (s:=ab) (by first | omega | (simp;omega)) CJ aw
         have eC:=oM.y
         have IA:=oM.n
         rw[ag5] at zx
         obtain ⟨du,dx,dy,dz,aW,rfl,LA,xhc,xhf⟩:=id zx
         have eJ:=oM.a
         obtain ⟨co,h8,Hc,xK,zo⟩:=uN (d:=d+36) (k:=1) o! eC
         have eQ:=xK.y
         have aaa:=xK.n
         obtain ⟨QA,QB,QC,QD,s5,rfl,osc,ohc,ohf⟩:=id zo
         have jl:=eJ.trans xK.a
         have Ch:=xK.a
         obtain ⟨h9,zc,gR,GY,pH,BX⟩:=de eQ (ar.cells (au false 0 0 0 0 bE 0) 60 false)
         have nm:=jl.trans BX
         have yM:=Ch.trans BX
         have CA:Has h8 h9:=BX
         obtain ⟨lx,P4,dE,wU,qH,vy⟩:=de gR (ar.cells (au false 0 0 0 0 bE 0) 60 false)
         have dm:=nm.trans vy
         have H':=yM.trans vy
         have ry:=CA.trans vy
         have adb:AV.scalar aW=true:=LA
         obtain ⟨ki,tL,cS,xa,iD,g8⟩:=b9 (t:=60) (n:=7) (i:=h8.nx) (L:=(bz false du dx dy dz aW ((aq A1).length))) dE (vy _ _ pH) k! rfl rfl z!
         have cP:=Has.ak dm g8 aw o!
         have HG:=Has.ak H' g8 eC o!
         have xP:=Has.ak ry g8 eQ o!
         have adz:AV.scalar s5=true:=osc
         obtain ⟨tG,oe,fl,Ei,kJ,eh⟩:=b9 (t:=60) (n:=7) (i:=h9.nx) (L:=(bz false QA QB QC QD s5 ((aq 1).length))) cS (g8 _ _ o! qH) k! rfl rfl z!
         have gu:=Has.ak cP eh aw o!
         have HI:=Has.ak HG eh eC o!
         have abT:=Has.ak xP eh eQ o!
         obtain ⟨cb,vJ,JS,iG,zb⟩:=dk (d:=d+36) (s:=be) (by first | omega | (simp;omega)) LK fl
         have iP:=iG.y
         have aff:=iG.n
         rw[aj0] at zb
         obtain ⟨qP,qQ,qR,qS,fH,rfl,bsc,bhc,bhf⟩:=id zb
         have jv:=gu.trans iG.a
         have HJ:=HI.trans iG.a
         have abU:=abT.trans iG.a
         have ajM:AV.scalar fH=true:=bsc
         obtain ⟨Uk,B3,mL,O4,mM,fT⟩:=b9 (t:=60) (n:=7) (i:=h9.nx) (L:=(bz false qP qQ qR qS fH ((aq B).length))) iP (iG.a _ _ kJ) k! rfl rfl z!
         have nv:=Has.ak jv fT aw o!
         have rG:=Has.ak HJ fT eC o!
         have CE:=Has.ak abU fT eQ o!
         have ksg:=Hh (d:=d+39) (zb.kept fT o! o!).whole mL (Nat.zero_le _)
         rw[←H_] at ksg
         have akc:=akb|>Rb q4|>Rn 4|>Rv u5|>Rv (bM 3 false true .i64 (((List.length ab)+(List.length be):Nat):Int) 50000)|>Rb q6|>Rc|>Re ml|>Re Hc|>Ra zc (fun i=>(AV.ptr i 0))|>Ra P4 (fun i=>(AV.ptr i 0))|>Rs tL|>Rs oe|>Rc|>Rb q3|>Rc|>Re JS|>Rs B3|>Rm (aJ 60 0 (AV.agg (bz false qP qQ qR qS fH ((aq B).length))) mM k!)|>Re ksg|>Rv (bQ 3 false true .i64 sg 0)
         rcases Bool.eq_false_or_eq_true (decide (sg=0)) with f5 | f5
         · have q18:(decide (sg=0))=true:=d!
           have ev:=nf (d+40) cH ((AV.str s)::aV 83) h .ret Uk (akc|>Rb q18|>Rn 2) k!
           have eR:dJ s=([],7):=by rw[bF fW h_ ic rQ rR sy jL kj sB sC oW hZ pe hB hW s7,cn,eV,jr];exact if_pos (yT H_|>.1 (of_decide_eq_true f5))
           rw[eR]
           exact ai rfl (az Tryz.func5 fQ k! (.inr rfl) ev k!) nv rfl
         · have LW:B≠0:=fun e0=>absurd (yT H_|>.2 e0) (of_decide_eq_false f5)
           have q18:(decide (sg=0))=false:=d!
           have akd:=akc|>Rb q18|>Rc
           rcases Bool.eq_false_or_eq_true ng with f6 | f6
           · have ru:ng=true:=f6
             have s6:eT nx (A1/Nat.gcd A1 B) (B/Nat.gcd A1 B)=tx:=by rw[zB,oC,oO,pc,ru,UP xQ]
             have Lx:ng=true:=d!
             have kng:=LV (d:=d+39) (X:=A1) (zx.grow rG o!).whole mL xQ
             obtain ⟨Fq,tN,mO,JC,sq,nO⟩:=b9 (t:=60) (n:=7) (i:=h8.nx) (L:=(bz nx du dx dy dz aW ((aq A1).length))) mL (fT _ _ o! (iG.a _ _ (eh _ _ o! iD))) k! rfl rfl z!
             have mP:=Has.ak nv nO aw o!
             have Ci:=Has.ak rG nO eC o!
             have P_:=Has.ak CE nO eQ o!
             obtain ⟨cr,KS,abR,z6,wr⟩:=lZ (d:=d+30) ((zx.grow Ci o!).sign (m':=nx)).whole ((zb.kept fT o! o!).kept nO o! o!).whole P7 abM LW abL mO
             have r9:=z6.y
             have aj9:=z6.n
             have zZ:=mP.trans z6.a
             have uh:=P_.trans z6.a
             have kT:=xO (d:=d+10) wr (Nat.lt_of_le_of_lt (Nat.div_le_self _ _) P9) (Nat.lt_of_le_of_lt (Nat.div_le_self _ _) abN) (zZ _ _ hG) r9
             rw[s6] at kT
             have ev:=nf (d+40) cH ((AV.str s)::aV 83) h .ret KS (akd|>Rb Lx|>Rm (aJ 60 0 (AV.agg (bz false du dx dy dz aW ((aq A1).length))) (fT _ _ o! (iG.a _ _ (eh _ _ o! iD))) k!)|>Re kng|>Rs tN|>Rm (aJ 60 0 (AV.agg (bz nx du dx dy dz aW ((aq A1).length))) sq k!)|>Rm (aJ 60 0 (AV.agg (bz false qP qQ qR qS fH ((aq B).length))) (nO _ _ o! mM) k!)|>Re abR|>Re kT|>Rn 4) k!
             have eR:dJ s=(tx,0):=by rw[bF fW h_ ic rQ rR sy jL kj sB sC oW hZ pe hB hW s7,cn,eV,jr,zB,oC,oO];exact if_neg LW
             rw[eR]
             exact ai rfl (az Tryz.func5 fQ k! (.inr rfl) ev k!) zZ rfl
           · have ru:ng=false:=f6
             have s6:eT false (A1/Nat.gcd A1 B) (B/Nat.gcd A1 B)=tx:=by rw[zB,oC,oO,pc,ru];rfl
             have Lx:ng=false:=d!
             obtain ⟨cr,Fq,aa1,rk,wr⟩:=lZ (d:=d+30) ((zx.grow rG o!).sign (m':=false)).whole (zb.kept fT o! o!).whole P7 abM LW (fun _=>rfl) mL
             have mO:=rk.y
             have ajr:=rk.n
             have mP:=nv.trans rk.a
             have Ci:=rG.trans rk.a
             have P_:=CE.trans rk.a
             have kT:=xO (d:=d+10) wr (Nat.lt_of_le_of_lt (Nat.div_le_self _ _) P9) (Nat.lt_of_le_of_lt (Nat.div_le_self _ _) abN) (mP _ _ hG) mO
             rw[s6] at kT
             have ev:=nf (d+40) cH ((AV.str s)::aV 83) h .ret Fq (akd|>Rb Lx|>Rm (aJ 60 0 (AV.agg (bz false du dx dy dz aW ((aq A1).length))) (fT _ _ o! (iG.a _ _ (eh _ _ o! iD))) k!)|>Rm (aJ 60 0 (AV.agg (bz false qP qQ qR qS fH ((aq B).length))) mM k!)|>Re aa1|>Re kT|>Rn 4) k!
             have eR:dJ s=(tx,0):=by rw[bF fW h_ ic rQ rR sy jL kj sB sC oW hZ pe hB hW s7,cn,eV,jr,zB,oC,oO];exact if_neg LW
             rw[eR]
             exact ai rfl (az Tryz.func5 fQ k! (.inr rfl) ev k!) mP rfl
     · have cn:sp=false:=f2
       have abS:ab=aH s:=by rw[fW];exact Cz (by rw[←ic];exact cn)
       have Ct:dt=da:=by rw[oW,jL,abS]
       have oC:A=A1:=by rw[hAA,cn,jV];rfl
       have oO:D=1:=by rw[Ft,cn,jV];rfl
       have afp:sg=(if aq 1=[] then 0 else if false=true then -1 else 1):=by rw[hsg,oO]
       have xQ:decide (0<(((aq A1).length:Nat):Int))=nx:=by rw[←oC];exact po
       have abL:A1=0→nx=false:=fun e0=>by rw[←xQ,e0,cO];rfl
       have P7:(aq A1).length<134217728:=pV CJ pe o!
       have P9:A1<10^40000:=pW (n:=40000) CJ pe o!
       have ag7:1≠0:=by decide
       have ake:(aq 1).length<134217728:=by rw[eK (by decide) (by decide)];decide
       have akf:1<10^40000:=afn (k:=0) (n:=40000) o!
       have q3:sp=false:=d!
       have u4:=fX 3 false false (List.length ab) (List.length be) o!
       have q5:(decide (50000<(((List.length ab)+(List.length be):Nat):Int)))=false:=d!
       obtain ⟨cx,h6,vL,jm,zx⟩:=dk (d:=d+36) (s:=ab) (by first | omega | (simp;omega)) CJ aw
       have dh:=jm.y
       have GG:=jm.n
       rw[ag5] at zx
       obtain ⟨du,dx,dy,dz,aW,rfl,LA,xhc,xhf⟩:=id zx
       have dK:=jm.a
       obtain ⟨co,h7,ml,oM,zo⟩:=uN (d:=d+36) (k:=1) o! dh
       have eC:=oM.y
       have IA:=oM.n
       obtain ⟨QA,QB,QC,QD,s5,rfl,osc,ohc,ohf⟩:=id zo
       have eJ:=dK.trans oM.a
       have Cj:=oM.a
       obtain ⟨h8,xp,eQ,BE,nI,LB⟩:=de eC (ar.cells (au false 0 0 0 0 bE 0) 60 false)
       have jl:=eJ.trans LB
       have yN:=Cj.trans LB
       have Ch:Has h7 h8:=LB
       obtain ⟨h9,zc,gR,GY,pH,BX⟩:=de eQ (ar.cells (au false 0 0 0 0 bE 0) 60 false)
       have nm:=jl.trans BX
       have pI:=yN.trans BX
       have yM:=Ch.trans BX
       have alJ:AV.scalar aW=true:=LA
       obtain ⟨lx,qD,dE,wU,qH,oQ⟩:=b9 (t:=60) (n:=7) (i:=h7.nx) (L:=(bz false du dx dy dz aW ((aq A1).length))) gR (BX _ _ nI) k! rfl rfl z!
       have dm:=Has.ak nm oQ aw o!
       have Ck:=Has.ak pI oQ dh o!
       have H':=Has.ak yM oQ eC o!
       have aah:AV.scalar s5=true:=osc
       obtain ⟨sZ,qN,dH,vr,gS,fh⟩:=b9 (t:=60) (n:=7) (i:=h8.nx) (L:=(bz false QA QB QC QD s5 ((aq 1).length))) dE (oQ _ _ o! pH) k! rfl rfl z!
       have dV:=Has.ak dm fh aw o!
       have ou:=Has.ak Ck fh dh o!
       have CG:=Has.ak H' fh eC o!
       have ksg:=Hh (d:=d+39) (zo.grow CG o!).whole dH (Nat.zero_le _)
       rw[←afp] at ksg
       have amt:=aka|>Rb q3|>Rc|>Rb q2|>Rv (aL (a:=some (aj true)) (b:=some (aj dc)) q3)|>Rb q2|>Rc|>Rb q1|>Rb q1|>Rb q1|>Rb q2|>Rv (aL (a:=some aB) (b:=some (aj false)) q1)|>Rv (aL (a:=some (aj true)) (b:=some (aj false)) q2)|>Rf|>Rn 4|>Rv u4|>Rv (bM 3 false true .i64 (((List.length ab)+(List.length be):Nat):Int) 50000)|>Rb q5|>Rc|>Re vL|>Re ml|>Ra xp (fun i=>(AV.ptr i 0))|>Ra zc (fun i=>(AV.ptr i 0))|>Rs qD|>Rs qN|>Rc|>Rb q3|>Rc|>Rb q1|>Rm (aJ 60 0 (AV.agg (bz false QA QB QC QD s5 ((aq 1).length))) gS k!)|>Re ksg|>Rv (bQ 3 false true .i64 sg 0)
       rcases Bool.eq_false_or_eq_true (decide (sg=0)) with f4 | f4
       · exact absurd (yT afp|>.1 (of_decide_eq_true f4)) ag7
       · have Ua:(decide (sg=0))=false:=d!
         have akg:=amt|>Rb Ua|>Rc
         rcases Bool.eq_false_or_eq_true ng with f5 | f5
         · have ru:ng=true:=f5
           have s6:eT nx (A1/Nat.gcd A1 1) (1/Nat.gcd A1 1)=tx:=by rw[zB,oC,oO,pc,ru,UP xQ]
           have q15:ng=true:=d!
           have kng:=LV (d:=d+39) (X:=A1) (zx.grow ou o!).whole dH xQ
           obtain ⟨Uk,B3,mL,O4,mM,fT⟩:=b9 (t:=60) (n:=7) (i:=h7.nx) (L:=(bz nx du dx dy dz aW ((aq A1).length))) dH (fh _ _ o! qH) k! rfl rfl z!
           have nv:=Has.ak dV fT aw o!
           have P':=Has.ak ou fT dh o!
           have rG:=Has.ak CG fT eC o!
           obtain ⟨cr,E0,BY,gG,wr⟩:=lZ (d:=d+30) ((zx.grow P' o!).sign (m':=nx)).whole (zo.grow rG o!).whole P7 ake ag7 abL mL
           have ij:=gG.y
           have aaf:=gG.n
           have iE:=nv.trans gG.a
           have kT:=xO (d:=d+10) wr (Nat.lt_of_le_of_lt (Nat.div_le_self _ _) P9) (Nat.lt_of_le_of_lt (Nat.div_le_self _ _) akf) (iE _ _ hG) ij
           rw[s6] at kT
           have ev:=nf (d+40) cH ((AV.str s)::aV 83) h .ret E0 (akg|>Rb q15|>Rm (aJ 60 0 (AV.agg (bz false du dx dy dz aW ((aq A1).length))) (fh _ _ o! qH) k!)|>Re kng|>Rs B3|>Rm (aJ 60 0 (AV.agg (bz nx du dx dy dz aW ((aq A1).length))) mM k!)|>Rm (aJ 60 0 (AV.agg (bz false QA QB QC QD s5 ((aq 1).length))) (fT _ _ o! gS) k!)|>Re BY|>Re kT|>Rn 4) k!
           have eR:dJ s=(tx,0):=by rw[bF fW h_ ic rQ rR sy jL kj sB sC oW hZ pe hB hW s7,cn,jV,Ct,eV,zB,oC,oO,s7,pe,abS];rfl
           rw[eR]
           exact ai rfl (az Tryz.func5 fQ k! (.inr rfl) ev k!) iE rfl
         · have ru:ng=false:=f5
           have s6:eT false (A1/Nat.gcd A1 1) (1/Nat.gcd A1 1)=tx:=by rw[zB,oC,oO,pc,ru];rfl
           have q15:ng=false:=d!
           obtain ⟨cr,Uk,abO,rF,wr⟩:=lZ (d:=d+30) ((zx.grow ou o!).sign (m':=false)).whole (zo.grow CG o!).whole P7 ake ag7 (fun _=>rfl) dH
           have mL:=rF.y
           have aj7:=rF.n
           have nv:=dV.trans rF.a
           have P':=ou.trans rF.a
           have rG:=CG.trans rF.a
           have kT:=xO (d:=d+10) wr (Nat.lt_of_le_of_lt (Nat.div_le_self _ _) P9) (Nat.lt_of_le_of_lt (Nat.div_le_self _ _) akf) (nv _ _ hG) mL
           rw[s6] at kT
           have ev:=nf (d+40) cH ((AV.str s)::aV 83) h .ret Uk (akg|>Rb q15|>Rm (aJ 60 0 (AV.agg (bz false du dx dy dz aW ((aq A1).length))) (fh _ _ o! qH) k!)|>Rm (aJ 60 0 (AV.agg (bz false QA QB QC QD s5 ((aq 1).length))) gS k!)|>Re abO|>Re kT|>Rn 4) k!
           have eR:dJ s=(tx,0):=by rw[bF fW h_ ic rQ rR sy jL kj sB sC oW hZ pe hB hW s7,cn,jV,Ct,eV,zB,oC,oO,s7,pe,abS];rfl
           rw[eR]
           exact ai rfl (az Tryz.func5 fQ k! (.inr rfl) ev k!) nv rfl
noncomputable def Ia:Code:=(Tryz.f7.body).getD .skip
theorem adL:Tryz.f7.body=some Ia:=by kernel_rfl
theorem adM {d:Nat} {h:ah} {a:List UInt8} (Df:a.length<2^60) (aw:Tidy h):aQ (d+16) (.fn 7) [.str a] h= .ret (.bool (jq a).isSome) h:=by
 obtain ⟨ok,rJ⟩:∃ok,ok=(jq a).isSome:=⟨_,rfl⟩
 rw[←rJ]
 obtain ⟨cs,h1,vI,S3,_,m,w0,w1,w2,w3,far,us,n,v0,v1,v2,v3,gar,vs,rfl,sc,sg⟩:=ady (d:=d) Df aw
 have aK:=S3.y
 have ajO:=S3.n
 rw[←rJ] at vI
 have aD:=S3.a
 obtain ⟨h2,bD,bP,iA,bB,b8⟩:=de aK (ar.cells [(aj false),(aa 0),(aa 0),(aa 0),(aa 0),bE,(af 0),(aj false),(aa 0),(aa 0),(aa 0),(aa 0),bE,(af 0)] 66 false)
 have b7:=aD.trans b8
 have sc4:AV.scalar far=true:=sc
 have sc5:AV.scalar gar=true:=sg
 obtain ⟨h3,ze,bt,ky,eb,qM⟩:=b9 (t:=66) (n:=14) (i:=h1.nx) (L:=[(aj m),(aa w0),(aa w1),(aa w2),(aa w3),far,(af us),(aj n),(aa v0),(aa v1),(aa v2),(aa v3),gar,(af vs)]) bP bB k! rfl rfl z!
 have aX:=Has.ak b7 qM aw o!
 have ev:=pk (d+15) Ia ((AV.str a)::aV 10) h .ret h3 (CN 2<|EE vI<|CN 3<|NN bD (fun i=>(AV.ptr i 0))<|SS ze<|CN 3<|ZZ) k!
 exact ai rfl (az Tryz.func7 adL k! (.inr rfl) ev k!) aX rfl
theorem UQ:∀(n u:Nat),bJ (dW u n)=u%10^n
 | 0,u=>by simp [dW,bJ,Nat.mod_one]
 | n+1,u=>by
  rw[dW,yA,UQ n,Nat.pow_succ,Nat.mul_comm (10^n) 10,Nat.mod_mul]
  omega
theorem J5 (u:Nat):bJ (cL (bf u))=u:=by
 rw[sE,UQ,Nat.mod_eq_of_lt (UO u)]
theorem UR:∀(n u:Nat),jy (dW u n)
 | 0,_=>fun c hc=>by cases hc
 | n+1,u=>fun c hc=>by
  rw[dW,List.mem_append] at hc
  rcases hc with h | h
  · exact UR n _ c h
  · rcases List.mem_singleton.1 h with rfl
    omega
theorem US:∀(l:List Nat),jy l.reverse→dW (bJ l.reverse) l.length=l.reverse
 | [],_=>rfl
 | c::l,h=>by
  rw[List.reverse_cons] at h ⊢
  have hc:=h c (by simp)
  have hl:jy l.reverse:=fun x hx=>h x (List.mem_append_left _ hx)
  rw[yA,List.length_cons,dW]
  have e1:(bJ l.reverse*10+(c - 48)) /10=bJ l.reverse:=by omega
  have e2:48+(bJ l.reverse*10+(c - 48))%10=c:=by omega
  rw[e1,e2,US l hl]
theorem abV {l:List Nat} (h:jy l):dW (bJ l) l.length=l:=by
 have:=US l.reverse (by rwa [List.reverse_reverse])
 rwa [List.reverse_reverse,List.length_reverse] at this
theorem WI {l:List Nat} (h:jy l) (cR:l≠ []) (hz:l.head?≠some 48∨l.length=1):eg (bJ l)=l.length:=by
 cases l with
 | nil=>exact absurd rfl cR
 | cons c r=>
  have hc:=h c (List.mem_cons_self ..)
  have hr:jy r:=fun x hx=>h x (List.mem_cons_of_mem _ hx)
  have gL:=pC hr
  rcases hz with hz | hz
  · have hc2:c≠48:=fun e=>hz (by rw[e];rfl)
    rw[yB,List.length_cons]
    refine l9 r.length _ ?_ ?_
    · have:1*10^r.length≤(c - 48)*10^r.length:=Nat.mul_le_mul_right _ o!
      omega
    · rw[Nat.pow_succ]
      have:(c - 48)*10^r.length≤9*10^r.length:=Nat.mul_le_mul_right _ o!
      omega
  · have:r=[]:=List.length_eq_zero_iff.1 (by simpa using hz)
    subst this
    rw[yB]
    simp only[List.length_nil,Nat.pow_zero,Nat.mul_one]
    show eg (c - 48+0)=1
    exact jK o!
theorem UT:∀(s:List UInt8),vv (cL s)=s
 | []=>rfl
 | c::s=>by
  rw[cL,List.map_cons,vv,List.map_cons]
  have:=UT s
  rw[vv,cL] at this
  rw[this]
  congr 1
  exact UInt8.ofNat_toNat
theorem Qc {s:List UInt8} (hd:jy (cL s)) (cR:s≠ []) (hz:s.head?≠some 48∨s.length=1):bf (bJ (cL s))=s:=by
 have J_:cL s≠ []:=fun e=>cR (List.length_eq_zero_iff.1 (by rw[←fM,e];rfl))
 have RM:(cL s).head?≠some 48∨(cL s).length=1:=by
  rcases hz with h | h
  · left
    cases s with
    | nil=>exact absurd rfl cR
    | cons x r=>
     intro e
     refine h ?_
     have e':some x.toNat=some 48:=e
     simp only[Option.some.injEq] at e'
     rw[List.head?_cons,Option.some.injEq]
     exact UInt8.toNat_inj.1 e'
  · right;rw[fM];exact h
 rw[bf,WI hd J_ RM,abV hd,UT]
theorem J6 (u:Nat):jy (cL (bf u)):=by rw[sE];exact UR _ _
theorem Qd {u:Nat} {c:UInt8} (h:c∈bf u):48≤c.toNat∧c.toNat≤57:=J6 u _ (List.mem_map_of_mem h)
theorem adN {u:Nat} {c:UInt8} (h:c.toNat<48):c ∉ bf u:=fun m=>by have:=(Qd m).1;omega
theorem EC (u:Nat):(bf u).length=eg u:=by rw[←fM,sE,fF]
theorem UU (u:Nat):bf u≠ []:=fun e=>by have h1:=EC u;have h2:=Cv u;rw[e] at h1;simp at h1;omega
theorem Ib (u:Nat):nu (bf u)=true:=by
 rw[nu,decide_eq_false (UU u),Bool.and_eq_true,List.all_eq_true]
 refine ⟨fun c hc=>?_,rfl⟩
 have:=J6 u c hc
 simp only[oc,Bool.and_eq_true,decide_eq_true_eq]
 exact this
theorem UW:∀(n u:Nat),10^n≤u→u<10^(n+1)→(dW u (n+1)).head?≠some 48
 | 0,u,h1,h2=>by
  simp only[dW,List.nil_append,List.head?_cons,Nat.pow_zero] at *
  intro e
  simp only[Option.some.injEq] at e
  omega
 | n+1,u,h1,h2=>by
  have ih:=UW n (u/10) (by rw[Nat.le_div_iff_mul_le (by decide),←Nat.pow_succ];exact h1) (by rw[Nat.div_lt_iff_lt_mul (by decide),←Nat.pow_succ];exact h2)
  rw[dW]
  have hl:=fF (n+1) (u/10)
  cases hd:dW (u/10) (n+1) with
  | nil=>rw[hd] at hl;simp at hl
  | cons a r=>rw[hd] at ih;exact ih
theorem DG (u:Nat):(bf u).head?≠some 48∨(bf u).length=1:=by
 by_cases q:u<10
 · right;rw[EC,jK q]
 · left
   have hu:u≠0:=by omega
   obtain ⟨n1,n2,n3⟩:=eM u hu
   have h:=UW (eg u - 1) u n2 (by rw[show eg u - 1+1=eg u by omega];exact n3)
   rw[show eg u - 1+1=eg u by omega] at h
   intro e
   have hm:(cL (bf u)).head?=some 48:=by rw[cL,List.head?_map,e];rfl
   rw[sE] at hm
   exact h hm
theorem WJ (s:List UInt8) (hl:s.length≤50000):iF s=(nu s&&(decide (s.head?≠some 48)||decide (s.length=1))):=by
 rw[iF,nu,decide_eq_true hl,Bool.and_true]
theorem Ic {s:List UInt8} (hl:s.length≤50000):iF s=true↔nu s=true∧(s.head?≠some 48∨s.length=1):=by
 rw[WJ s hl,Bool.and_eq_true,Bool.or_eq_true,decide_eq_true_eq,decide_eq_true_eq]
theorem abW {s:List UInt8} (h:nu s=true):s≠ []:=fun e=>by subst e;simp [nu] at h
theorem Qe {m:Bool} {A D:Nat} {s:List UInt8} (h:eT m A D=s):decide (s.head?=some 45)=m∧(cutAt 47 (aH s)).1=bf A∧(cutAt 47 (aH s)).2.2=decide (D≠1)∧(D≠1→(cutAt 47 (aH s)).2.1=bf D):=by
 have oC:=UU A
 have h47:(47:UInt8)∉ bf A:=adN (by decide)
 have tl:∀R:List UInt8,(bf A++R).head?≠some 45:=fun R=>by
  cases hd:bf A with
  | nil=>exact absurd hd oC
  | cons x r=>
   rw[List.cons_append,List.head?_cons]
   intro e
   simp only[Option.some.injEq] at e
   have:=(Qd (u:=A) (c:=x) (by rw[hd];exact List.mem_cons_self ..)).1
   rw[e] at this
   exact absurd this (by decide)
 have core:∀t,t=bf A++(if D=1 then [] else [47]++bf D)→(cutAt 47 t).1=bf A∧(cutAt 47 t).2.2=decide (D≠1)∧(D≠1→(cutAt 47 t).2.1=bf D):=by
  rintro t rfl
  by_cases q:D=1
  · rw[if_pos q,List.append_nil,xD h47]
    exact ⟨rfl,(decide_eq_false (fun e=>e q)).symm,fun e=>absurd q e⟩
  · rw[if_neg q,List.singleton_append,tU h47]
    exact ⟨rfl,(decide_eq_true q).symm,fun _=>rfl⟩
 cases m with
 | true=>
  have e:s=45::(bf A++(if D=1 then [] else [47]++bf D)):=by rw[←h,eT,if_pos rfl];rfl
  have eu:aH s=bf A++(if D=1 then [] else [47]++bf D):=by rw[e];rfl
  exact ⟨by rw[e];rfl,core _ eu⟩
 | false=>
  have e:s=bf A++(if D=1 then [] else [47]++bf D):=by rw[←h,eT,if_neg (by decide)]
  have hh:s.head?≠some 45:=by rw[e];exact tl _
  have eu:aH s=bf A++(if D=1 then [] else [47]++bf D):=by rw[aH,if_neg hh];exact e
  exact ⟨decide_eq_false hh,core _ eu⟩
theorem Qf {c:UInt8}:∀{s:List UInt8},(cutAt c s).2.2=true→s=(cutAt c s).1++c::(cutAt c s).2.1
 | [],h=>by cases h
 | x::s,h=>by
  rw[cutAt] at h ⊢
  split at h
  · rename_i q;rw[if_pos q,q];rfl
  · rename_i q
    rw[if_neg q]
    have ih:=Qf (c:=c) (s:=s) h
    show x::s=x::((cutAt c s).1++c::(cutAt c s).2.1)
    rw[←ih]
theorem Qg (s:List UInt8):s=(if decide (s.head?=some 45)=true then [45]++aH s else aH s):=by
 by_cases q:s.head?=some 45
 · rw[if_pos (decide_eq_true q),aH,if_pos q]
   cases s with
   | nil=>cases q
   | cons x r=>
    simp only[List.head?_cons,Option.some.injEq] at q
    rw[q];rfl
 · rw[if_neg (by rw[decide_eq_false q];decide),aH,if_neg q]
theorem LX {B g:Nat} (hB:B≠0) (h:B/g=B):g=1:=by
 rcases Nat.lt_or_ge g 2 with h2 | h2
 · rcases Nat.lt_or_ge g 1 with h1 | h1
   · have:g=0:=by omega
     rw[this,Nat.div_zero] at h;omega
   · omega
 · have:=Nat.div_lt_self (Nat.pos_of_ne_zero hB) h2
   omega
theorem WK {s:List UInt8} (hs:s.length≤50000):jq s=IP s:=by
 obtain ⟨t,ht⟩:∃t,t=aH s:=⟨_,rfl⟩
 obtain ⟨ng,hZ⟩:∃ng,ng=decide (s.head?=some 45):=⟨_,rfl⟩
 obtain ⟨ab,fW⟩:∃ab,ab=(cutAt 47 (aH s)).1:=⟨_,rfl⟩
 obtain ⟨be,h_⟩:∃be,be=(cutAt 47 (aH s)).2.1:=⟨_,rfl⟩
 obtain ⟨sp,ic⟩:∃sp,sp=(cutAt 47 (aH s)).2.2:=⟨_,rfl⟩
 obtain ⟨p1,E4⟩:∃p1,p1=iF ab:=⟨_,rfl⟩
 obtain ⟨p2,uj⟩:∃p2,p2=iF be:=⟨_,rfl⟩
 obtain ⟨A,hA⟩:∃A,A=bJ (cL ab):=⟨_,rfl⟩
 obtain ⟨B,hB⟩:∃B,B=bJ (cL be):=⟨_,rfl⟩
 obtain ⟨da,jL⟩:∃da,da=nu ab:=⟨_,rfl⟩
 obtain ⟨db,kj⟩:∃db,db=nu be:=⟨_,rfl⟩
 have hlu:(aH s).length≤s.length:=by unfold aH;split<;>simp
 obtain ⟨l1,l2⟩:=jT 47 (aH s)
 rw[←fW] at l1
 rw[←h_] at l2
 have pab:=Ic (s:=ab) o!
 have pbe:=Ic (s:=be) o!
 rw[f_ rfl hZ fW h_ ic E4 uj hA hB,jU fW h_ ic jL kj hZ hA hB]
 have join:=Qg s
 rw[←hZ] at join
 have plA:p1=true→¬(ng=true∧ab=[48])→da=true∧bf A=ab∧(ng&&decide (A≠0))=ng:=fun f1 f2=>by
  obtain ⟨d1,d2⟩:=pab.1 (by rw[←E4];exact f1)
  refine ⟨by rw[jL];exact d1,by rw[hA];exact Qc (d_ d1) (abW d1) d2,?_⟩
  cases ng with
  | false=>rfl
  | true=>
   rw[Bool.true_and]
   exact decide_eq_true fun e=>f2 ⟨rfl,HF (by rw[←E4];exact f1) (by rw[←hA];exact e)⟩
 cases sp with
 | false=>
  have hj:aH s=ab:=by rw[fW];exact (Cz ic.symm).symm
  simp only[Bool.false_eq_true,if_false]
  by_cases T:eT (ng&&decide (A≠0)) (A/Nat.gcd A 1) (1/Nat.gcd A 1)=s
  · obtain ⟨c1,c2,c3,_⟩:=Qe T
    rw[←hZ] at c1
    rw[←fW,Nat.gcd_one_right,Nat.div_one] at c2
    have f1:p1=true:=by rw[E4];exact pab.2 (by rw[c2];exact ⟨Ib A,DG A⟩)
    have f2:¬(ng=true∧ab=[48]):=fun ⟨e1,e2⟩=>by
     have oC:A=0:=by rw[hA,e2];rfl
     rw[oC] at c1
     rw[e1] at c1
     cases c1
    obtain ⟨d1,_,d3⟩:=plA f1 f2
    rw[if_pos f1,if_neg f2,if_pos d1,Cq,if_pos T,d3,Nat.gcd_one_right,Nat.div_one,Nat.div_one]
  · have e0:Cq s ng A 1=none:=by rw[Cq,if_neg T]
    rw[e0]
    by_cases f1:p1=true
    · by_cases f2:ng=true∧ab=[48]
      · rw[if_pos f1,if_pos f2];split<;>rfl
      · exfalso
        obtain ⟨d1,d2,d3⟩:=plA f1 f2
        refine T ?_
        rw[d3,Nat.gcd_one_right,Nat.div_one,Nat.div_one,eT,if_pos rfl,List.append_nil,d2,join,hj]
    · rw[if_neg f1];split<;>rfl
 | true=>
  have hj:aH s=ab++47::be:=by rw[fW,h_];exact Qf ic.symm
  simp only[if_true]
  have plB:p2=true→db=true∧bf B=be:=fun f=>by
   obtain ⟨d1,d2⟩:=pbe.1 (by rw[←uj];exact f)
   exact ⟨by rw[kj];exact d1,by rw[hB];exact Qc (d_ d1) (abW d1) d2⟩
  by_cases T:eT (ng&&decide (A≠0)) (A/Nat.gcd A B) (B/Nat.gcd A B)=s
  · obtain ⟨c1,c2,c3,c4⟩:=Qe T
    rw[←hZ] at c1
    rw[←fW] at c2
    rw[←ic] at c3
    have q1:B/Nat.gcd A B≠1:=of_decide_eq_true c3.symm
    have c4:=c4 q1
    rw[←h_] at c4
    have eA:A=A/Nat.gcd A B:=by
     have:=hA
     rw[c2,J5] at this
     exact this
    have eB:B=B/Nat.gcd A B:=by
     have:=hB
     rw[c4,J5] at this
     exact this
    by_cases Xb:B=0
    · have hg:Nat.gcd A B=A:=by rw[Xb,Nat.gcd_zero_right]
      rw[if_pos Xb]
      have e1:(if B≤1 then none else if Nat.gcd A B=1 then some (ng,A,B) else none)=(none:Option (Bool×Nat×Nat)):=if_pos o!
      rw[e1]
      split
      · split
        · split<;>(try split)<;>rfl
        · split<;>split<;>(try split)<;>rfl
      · split<;>(try split)<;>rfl
    · have g1:Nat.gcd A B=1:=LX Xb eB.symm
      rw[g1,Nat.div_one] at q1 c2 c4
      have f1:p1=true:=by rw[E4];exact pab.2 (by rw[c2];exact ⟨Ib A,DG A⟩)
      have f5:p2=true:=by rw[uj];exact pbe.2 (by rw[c4];exact ⟨Ib B,DG B⟩)
      have f2:¬(ng=true∧ab=[48]):=fun ⟨e1,e2⟩=>by
       have oC:A=0:=by rw[hA,e2];rfl
       rw[oC] at c1
       rw[e1] at c1
       cases c1
      obtain ⟨d1,_,d3⟩:=plA f1 f2
      obtain ⟨d5,_⟩:=plB f5
      rw[if_pos f1,if_neg f2,if_pos f5,if_neg o!,if_pos g1,if_pos d1,if_pos d5,if_neg Xb,Cq,if_pos T,d3,g1,Nat.div_one,Nat.div_one]
  · have e0:Cq s ng A B=none:=by rw[Cq,if_neg T]
    rw[e0]
    have rhs:(if da=true then (if db=true then (if B=0 then none else none) else none) else none)=(none:Option (Bool×Nat×Nat)):=by
     split
     · split
       · split<;>rfl
       · rfl
     · rfl
    rw[rhs]
    by_cases f1:p1=true
    · rw[if_pos f1]
      by_cases f2:ng=true∧ab=[48]
      · rw[if_pos f2]
      · rw[if_neg f2]
        by_cases f5:p2=true
        · rw[if_pos f5]
          by_cases f6:B≤1
          · rw[if_pos f6]
          · rw[if_neg f6]
            by_cases f7:Nat.gcd A B=1
            · exfalso
              obtain ⟨d1,d2,d3⟩:=plA f1 f2
              obtain ⟨d5,d6⟩:=plB f5
              refine T ?_
              have hB1:¬B=1:=by omega
              rw[d3,f7,Nat.div_one,Nat.div_one,eT,if_neg hB1,d2,d6]
              conv=>rhs;rw[join,hj]
              cases ng<;>simp
            · rw[if_neg f7]
        · rw[if_neg f5]
    · rw[if_neg f1]
theorem abX (z:Int):PK z=eT (decide (z<0)) z.natAbs 1:=by
 rw[PK,ajF,eT,if_pos rfl,List.append_nil]
 rfl
noncomputable def m_:Code:=(Tryz.f3.body).getD .skip
theorem xR:Tryz.f3.body=some m_:=by kernel_rfl
theorem UX {d:Nat} {h:ah}:aQ (d+41) (.fn 4) [] h= .ret (.bool true) h:=by
 show gE env M0 (d+40+1) (.fn 4) [] h= .ret (.bool true) h
 simp only[gE]
 rfl
theorem Ie {d:Nat} {h:ah} {s:List UInt8} {z:Int} {f:TypeId} {ro:Bool} (Ij: -9223372036854775808≤z) (hz2:z<9223372036854775808) (anw:s.length<2^60) (hG:h.get 1=some (.cells (aA .u64 pb) f ro)) (aw:Tidy h):aQ (d+42) (.fn 3) [.str s,.int .i64 z] h= .ret (.bool true) h:=by
 by_cases q:600<s.length
 · have q1:=dg (600<((List.length s:Nat):Int))
   have q1:(decide (600<((List.length s:Nat):Int)))=true:=d!
   have kL:aQ (d+41) (.fn 4) [] h= .ret (.bool true) h:=UX
   have ev:=pk (d+41) m_ ((AV.str s)::(af z)::aV 47) h .ret h (CN 3<|VV (bM 3 false true .i64 ((List.length s:Nat):Int) 600)<|BB q1<|EE kL<|CC<|ZZ) k!
   exact ai rfl (az Tryz.func3 xR k! (.inr rfl) ev k!) (Has.refl _) rfl
 · have hs:s.length≤20000:=by omega
   obtain ⟨rs,hrs⟩:∃rs,rs=(dJ s).1:=⟨_,rfl⟩
   obtain ⟨re,hre⟩:∃re,re=(dJ s).2:=⟨_,rfl⟩
   obtain ⟨va,hva⟩:∃va,va=(IP s).isSome:=⟨_,rfl⟩
   obtain ⟨iz,hiz⟩:∃iz,iz=eT (decide (z<0)) z.natAbs 1:=⟨_,rfl⟩
   have lz1:(nW z.natAbs).length<2^26:=by
    have:=jS (n:=z.natAbs) (k:=3) o!
    omega
   have lz2:(nW 1).length<2^26:=by rw[mS (by decide) (by decide)];decide
   have e1:(va==va)=true:=by cases va<;>rfl
   have e2:(decide (rs=rs))=true:=decide_eq_true rfl
   have e3:(decide ((re:Int)=(re:Int)))=true:=decide_eq_true rfl
   have e4:(decide (iz=iz))=true:=decide_eq_true rfl
   have q1:(decide (600<((List.length s:Nat):Int)))=false:=d!
   have kR:=abB (d:=d) (h:=h) hs (Has.refl _ _ _ hG) aw
   rw[←hrs,←hre] at kR
   have kQ:=adG (d:=d+33) (h:=h) hs aw
   rw[←hrs,←hre] at kQ
   have kV:=adM (d:=d+25) (h:=h) (a:=s) o! aw
   rw[WK o!,←hva] at kV
   have kW:=abn (d:=d+32) (h:=h) (s:=s) o! aw
   rw[←hva] at kW
   have q2:(va==va)=true:=d!
   have q3:(decide (rs=rs))=true:=d!
   have q4:(decide ((re:Int)=(re:Int)))=true:=d!
   have kI:=ajH (d:=d+35) (h:=h) (z:=z) Ij hz2 (Has.refl _ _ _ hG) aw
   rw[abX,←hiz] at kI
   obtain ⟨z1,z2,h5,pD,g_,n1,n2⟩:=ajJ (d:=d+39) (h:=h) Ij hz2 aw
   have fA:=g_.y
   have V7:=g_.n
   have ep:=g_.a
   have kT:=mZ (d:=d+39) (h:=h5) (m:=decide (z<0)) n1 n2 lz1 lz2 fA
   rw[←hiz] at kT
   have q6:(decide (iz=iz))=true:=d!
   have kL:aQ (d+41) (.fn 4) [] h5= .ret (.bool true) h5:=UX
   have ev:=pk (d+41) m_ ((AV.str s)::(af z)::aV 47) h .ret h5 (CN 3<|VV (bM 3 false true .i64 ((List.length s:Nat):Int) 600)<|BB q1<|CC<|EE kR<|CN 6<|EE kQ<|CN 6<|EE kV<|CC<|EE kW<|CN 2<|BB q2<|CC<|BB q2<|CC<|BB q2<|VV (EO 23 false false rs rs)<|VV (aG (a:=some (aj (decide (rs=rs)))) (b:=some (aj false)) q2)<|CC<|BB q3<|CC<|BB q3<|CC<|BB q3<|VV (bQ 24 false false .i64 (re:Int) (re:Int))<|VV (aG (a:=some (aj (decide ((re:Int)=(re:Int))))) (b:=some (aj false)) q3)<|CC<|BB q4<|CC<|BB q4<|EE kI<|BB q4<|CC<|BB q4<|EE pD<|BB q4<|EE kT<|BB q4<|VV (EO 23 false false iz iz)<|VV (aG (a:=some (aj (decide (iz=iz)))) (b:=some (aj false)) q4)<|CC<|BB q6<|EE kL<|VV (aG (a:=some (aj true)) (b:=some (aj false)) q6)<|CC<|ZZ) k!
   exact ai rfl (az Tryz.func3 xR k! (.inr rfl) ev k!) ep rfl
end Go.Proofs.aF
