import Derived.Test.YtkkpegaeikljmaaGreatDoorA6
import Derived.Test.YtkkpegaeikljmaaGreatDoorW0
import Derived.Test.YtkkpegaeikljmaaGreatDoorEnv
import Derived.Test.YtkkpegaeikljmaaGreatDoorW3
namespace Go.Proofs.aF
open Go.Proofs Ab
set_option maxRecDepth 100000
set_option maxHeartbeats 4000000
set_option linter.unusedVariables false
set_option linter.unusedSimpArgs false
noncomputable def sY:Code:=(Tryz.f166.body).getD .skip
theorem R':Tryz.f166.body=some sY:=by kernel_rfl
noncomputable def pF:Code:=(aY sY).getD 0 .skip
theorem GK {call:aE} {h:ah} {ds:List cC} {rc:RC} {x1 x3 x4 x5 x6 x8 x9 x10 x11 x12 x13 x14 x15 x16 x20 x21 x22 x23 x24 x25 x26 x27 x28 x29 x30 x31 x32 x33 x34 x35 x36 x37 x38 x39 x40 x41 x42 x43 x44 x45 x46 x47 x48 x49 x50 x51 x52 x53 x54 x55:AV} {z a:AV} {m ca i n:Int} {p2 p3 Om p14:Nat} {y5 y7 y8 gP vP uk sP sQ:Int} {Bz:List AV} {Gu:TypeId} (aw:Tidy h) (ES:0≤h.nx) (q1:(decide (i<n))=true) (c4:bq env (some (.slice 54)) (some a) (some (af i))=some (AV.ptr p2 p3)) (c6:bk env h 54 (AV.ptr p2 p3)=some (aa y5)) (k9:∀hh,Tidy hh→Has h hh→(h.nx≤hh.nx∧0≤hh.nx)→call (.fn 75) [(aa y5),(aa m)] hh= .ret (AV.tuple [(aa y7),(aa y8)]) hh) (Qo:jk [(aa y8),(aa ca),(aa 0)]=some (AV.tuple [(aa gP),(aa vP)])) (c15:bq env (some (.slice 54)) (some z) (some (af i))=some (AV.ptr Om p14)) (RL:bk env h 54 (AV.ptr Om p14)=some (aa uk)) (c20:qk [(aa uk),(aa gP),(aa 0)]=some (AV.tuple [(aa sP),(aa sQ)])) (qp:h.get Om=some (ar.cells Bz Gu false)) (afW:p14<Bz.length) (w22:IntKind.i64.wrap (i+1)=i+1):
 ∃(KS:ah),Ev env call pF ⟨[z,x1,(aa m),x3,x4,x5,x6,(aa ca),x8,x9,x10,x11,x12,x13,x14,x15,x16,a,(af n),(af i),x20,x21,x22,x23,x24,x25,x26,x27,x28,x29,x30,x31,x32,x33,x34,x35,x36,x37,x38,x39,x40,x41,x42,x43,x44,x45,x46,x47,x48,x49,x50,x51,x52,x53,x54,x55],h,ds,rc⟩ .normal ⟨[z,x1,(aa m),x3,x4,x5,x6,(aa (IntKind.u64.wrap ((IntKind.u64.wrap (y7+vP))+sQ))),(af i),(aa y5),(aa (IntKind.u64.wrap (y7+vP))),(aa gP),(aa sQ),x13,x14,x15,x16,a,(af n),(af (i+1)),(aj (decide (i<n))),(af i),(AV.ptr p2 p3),(aa y5),(AV.tuple [(aa y7),(aa y8)]),(aa y5),(aa m),(AV.tuple [(aa y7),(aa y8)]),(aa y7),(aa y8),(AV.tuple [(aa gP),(aa vP)]),(aa y8),(aa ca),(AV.tuple [(aa gP),(aa vP)]),(aa gP),(aa vP),(aa y7),(aa vP),(aa (IntKind.u64.wrap (y7+vP))),(AV.tuple [(aa sP),(aa sQ)]),z,(af i),z,(af i),(AV.ptr Om p14),(aa uk),(aa gP),(AV.tuple [(aa sP),(aa sQ)]),(aa sP),(aa sQ),(AV.ptr Om p14),(aa (IntKind.u64.wrap (y7+vP))),(aa sQ),(aa (IntKind.u64.wrap ((IntKind.u64.wrap (y7+vP))+sQ))),(af (i+1)),x55],KS,ds,rc⟩∧nj h KS Om (ar.cells (Bz.set p14 (aa sP)) Gu false)∧KS.nx=h.nx:=by
 obtain ⟨KS,qt⟩:∃h',ch env h 54 (AV.ptr Om p14) (aa sP)=some h':=mA (n:=1) qp k! rfl o! z!
 have r9:=iU aw qt qp
 have M5:=kq qt qp
 have YF:nj h KS Om (ar.cells (Bz.set p14 (aa sP)) Gu false):=⟨r9,jP aw qt qp,fun i x hi gx=>gX aw qt qp hi gx⟩
 exact ⟨KS,aR (n:=200) (VV (bh 3 false false .i64 i n)<|BB q1<|CC<|VV c4<|MM c6<|CN 4<|EE (show call (.fn 75) [(aa y5),(aa m)] h= .ret (AV.tuple [(aa y7),(aa y8)]) h from k9 _ aw (Has.refl _) ⟨by omega,by omega⟩)<|CN 7<|QQ Qo<|CN 13<|VV c15<|MM RL<|CC<|QQ c20<|CN 3<|VV c15<|SS qt<|CN 5<|VV (iI 3 false true w22)<|CC<|ZZ) k!,YF,M5⟩
theorem GM {call:aE} {h:ah} {ds:List cC} {rc:RC} {x1 x3 x4 x5 x6 x8 x9 x10 x11 x12 x13 x14 x15 x16 x20 x21 x22 x23 x24 x25 x26 x27 x28 x29 x30 x31 x32 x33 x34 x35 x36 x37 x38 x39 x40 x41 x42 x43 x44 x45 x46 x47 x48 x49 x50 x51 x52 x53 x54 x55:AV} {z a:AV} {m ca i n:Int} (q1:(decide (i<n))=false):
 Ev env call pF ⟨[z,x1,(aa m),x3,x4,x5,x6,(aa ca),x8,x9,x10,x11,x12,x13,x14,x15,x16,a,(af n),(af i),x20,x21,x22,x23,x24,x25,x26,x27,x28,x29,x30,x31,x32,x33,x34,x35,x36,x37,x38,x39,x40,x41,x42,x43,x44,x45,x46,x47,x48,x49,x50,x51,x52,x53,x54,x55],h,ds,rc⟩ (.exit 0) ⟨[z,x1,(aa m),x3,x4,x5,x6,(aa ca),x8,x9,x10,x11,x12,x13,x14,x15,x16,a,(af n),(af i),(aj (decide (i<n))),x21,x22,x23,x24,x25,x26,x27,x28,x29,x30,x31,x32,x33,x34,x35,x36,x37,x38,x39,x40,x41,x42,x43,x44,x45,x46,x47,x48,x49,x50,x51,x52,x53,x54,x55],h,ds,rc⟩:=
 aR (n:=200) (VV (bh 3 false false .i64 i n)<|BB q1<|ZZ) k!
theorem On {call:aE} {h:ah} {z a:AV} {m:Int} {n1 co:Int} {y3 YG YH YI YJ YK YM afX YN YO M7 M8 M9 M_ M' Na Nb Nc Nd Nf Ng Nh Ni Nj Nk Nl Nm Nn No Np Nq Nr Ns Nt Nu Nv Nw Nx Ny Nz NA NB NC ND NF NG NH NI NJ NK NL NM NO NP NQ TL:AV} {hz:ah} (aw:Tidy h) (ES:0≤h.nx) (afY:Tidy hz) (afZ:0≤hz.nx) (c2:dO (some (.slice 54)) (some a)=some (af n1)) (c4:aZ env 56 z (none) (some (af n1)) (none)=some y3) (e6:Ev env call (.loop pF) ⟨(y3::a::(aa m)::aB::aB::aB::(aa 0)::(aa 0)::aB::aB::aB::aB::aB::z::a::(af n1)::y3::a::(af n1)::(af 0)::aV 36),h,[],.no⟩ (.exit 0) ⟨[YG,YH,YI,YJ,YK,YM,afX,(aa co),YN,YO,M7,M8,M9,M_,M',Na,Nb,Nc,Nd,Nf,Ng,Nh,Ni,Nj,Nk,Nl,Nm,Nn,No,Np,Nq,Nr,Ns,Nt,Nu,Nv,Nw,Nx,Ny,Nz,NA,NB,NC,ND,NF,NG,NH,NI,NJ,NK,NL,NM,NO,NP,NQ,TL],hz,[],.no⟩):
 Ev env call sY ⟨(z::a::(aa m)::aV 53),h,[],.no⟩ .ret ⟨[YG,YH,YI,YJ,YK,YM,(aa co),(aa co),YN,YO,M7,M8,M9,M_,M',Na,Nb,Nc,Nd,Nf,Ng,Nh,Ni,Nj,Nk,Nl,Nm,Nn,No,Np,Nq,Nr,Ns,Nt,Nu,Nv,Nw,Nx,Ny,Nz,NA,NB,NC,ND,NF,NG,NH,NI,NJ,NK,NL,NM,NO,NP,NQ,(aa co)],hz,[],.no⟩:=
 aR (n:=200) (CN 4<|VV c2<|QQ c4<|CN 2<|VV c2<|CC<|LL e6<|CN 2<|ZZ) k!
def um (z x:List Nat) (m:Nat):Nat→List Nat×Nat
 | 0=>([],0)
 | k+1=>((um z x m k).1++[(z.getD k 0+18446744073709551616 -(x.getD k 0*m+(um z x m k).2)%18446744073709551616)%18446744073709551616],
  (x.getD k 0*m+(um z x m k).2) /18446744073709551616+if z.getD k 0<(x.getD k 0*m+(um z x m k).2)%18446744073709551616 then 1 else 0)
theorem BP (z x:List Nat) (m:Nat):∀k,(um z x m k).1.length=k
 | 0=>rfl
 | k+1=>by simp [um,BP z x m k]
theorem uS {z x:List Nat} {m:Nat} (wx:Words x) (hm:m<18446744073709551616):∀k,(um z x m k).2<18446744073709551616
 | 0=>by show 0<18446744073709551616;decide
 | k+1=>by
  have h0:=uS (z:=z) wx hm k
  have h1:=wK (wx.getD k) hm
  simp only[um]
  generalize x.getD k 0*m=P at *
  split<;>omega
theorem zQ {d:Nat} {h0:ah} {ds:List cC} {rc:RC} {z a:AV} {l zs:List Nat} {m:Nat} {p o n:Nat} {C:List AV} {f:TypeId} (hz:EL h0 z p o n C f) (hn:l.length=n) (Q6:l.length=zs.length) (hC:Holds .u64 C o zs) (ha:ao env h0 .u64 54 a l) (oa:mj p a) (wl:Words l) (wz:Words zs) (hm:m<18446744073709551616) (po:0≤h0.nx):
 ∀(r k:Nat) (i:Int) (h:ah),k+r=l.length→i=(k:Nat)→nj h0 h p (.cells (setFrom C o (aA .u64 (um zs l m k).1)) f false)→h.nx=h0.nx→∀(ca:Int) (x1 x3 x4 x5 x6 x8 x9 x10 x11 x12 x13 x14 x15 x16 x20 x21 x22 x23 x24 x25 x26 x27 x28 x29 x30 x31 x32 x33 x34 x35 x36 x37 x38 x39 x40 x41 x42 x43 x44 x45 x46 x47 x48 x49 x50 x51 x52 x53 x54 x55:AV),ca=((um zs l m k).2:Nat)→
  ∃h' y0 y1 y2 y3 y4 y5 y6 y7 y8 y9 gP vP sR By pO zM uk ET sP sQ EU KT KU KV KW KX KY KZ K0 K1 K2 TM TN TO TP TQ TR TS TU TV TW y41 y42 y43 y44 y45 y46 y47 y48 y49 y50 y51 y52 y53 y54 y55,Ev env (aQ (d+1)) (.loop pF) ⟨[z,x1,(ae m),x3,x4,x5,x6,(aa ca),x8,x9,x10,x11,x12,x13,x14,x15,x16,a,(af (l.length:Nat)),(af i),x20,x21,x22,x23,x24,x25,x26,x27,x28,x29,x30,x31,x32,x33,x34,x35,x36,x37,x38,x39,x40,x41,x42,x43,x44,x45,x46,x47,x48,x49,x50,x51,x52,x53,x54,x55],h,ds,rc⟩ (.exit 0) ⟨[y0,y1,y2,y3,y4,y5,y6,y7,y8,y9,gP,vP,sR,By,pO,zM,uk,ET,sP,sQ,EU,KT,KU,KV,KW,KX,KY,KZ,K0,K1,K2,TM,TN,TO,TP,TQ,TR,TS,TU,TV,TW,y41,y42,y43,y44,y45,y46,y47,y48,y49,y50,y51,y52,y53,y54,y55],h',ds,rc⟩∧y7= .int .u64 ((um zs l m l.length).2:Nat)∧nj h0 h' p (.cells (setFrom C o (aA .u64 (um zs l m l.length).1)) f false)∧h'.nx=h0.nx
 | 0,k,i,h,hk,hi,hc,hx,ca,x1,x3,x4,x5,x6,x8,x9,x10,x11,x12,x13,x14,x15,x16,x20,x21,x22,x23,x24,x25,x26,x27,x28,x29,x30,x31,x32,x33,x34,x35,x36,x37,x38,x39,x40,x41,x42,x43,x44,x45,x46,x47,x48,x49,x50,x51,x52,x53,x54,x55,CI=>by
  obtain rfl:k=l.length:=by omega
  exact ⟨h,_,_,_,_,_,_,_,_,_,_,_,_,_,_,_,_,_,_,_,_,_,_,_,_,_,_,_,_,_,_,_,_,_,_,_,_,_,_,_,_,_,_,_,_,_,_,_,_,_,_,_,_,_,_,_,_,Ev.out (GM (dF o!)),by rw[CI],hc,hx⟩
 | r+1,k,i,h,hk,hi,hc,hx,ca,x1,x3,x4,x5,x6,x8,x9,x10,x11,x12,x13,x14,x15,x16,x20,x21,x22,x23,x24,x25,x26,x27,x28,x29,x30,x31,x32,x33,x34,x35,x36,x37,x38,x39,x40,x41,x42,x43,x44,x45,x46,x47,x48,x49,x50,x51,x52,x53,x54,x55,CI=>by
  have hs:=ha.small
  have ha':=ha.chg hc oa
  obtain ⟨p1,q1,i1,l1⟩:=ha'.elem (fK (show k<l.length by omega))
  have RM:EL h z p o n (setFrom C o (aA .u64 (um zs l m k).1)) f:=⟨hz.is,hc.2.1,by rw[cV];exact hz.fits⟩
  have j1:=RM.idx (E:=env) (e:=54) k! (show k<n by omega)
  have zl:bk env h 54 (.ptr p (o+k))=some (.int .u64 ((zs.getD k 0:Nat):Int)):=RM.load k! (hC.behind (by rw[BP];exact Nat.le_refl _) (fK o!))
  have lt:=RM.fits
  have w2:=fS (i+1)
  have b1:=uS (z:=zs) wl hm k
  have b2:=wz.getD k
  have b3:=wK (wl.getD k) hm
  have sL:(setFrom C o (aA .u64 (um zs l m k).1)).set (o+k) (.int .u64 (((zs.getD k 0+18446744073709551616 -(l.getD k 0*m+(um zs l m k).2)%18446744073709551616)%18446744073709551616:Nat):Int))=setFrom C o (aA .u64 (um zs l m (k+1)).1):=by
   simp only[um]
   rw[th,mB,aM,BP]
  have a1:=fL (l.getD k 0*m%18446744073709551616) (um zs l m k).2 0 (by decide)
  have a2:=nG (zs.getD k 0) ((l.getD k 0*m%18446744073709551616+(um zs l m k).2+0)%18446744073709551616) 0 b2 (Nat.mod_lt _ (by decide)) (by decide)
  have ew:(l.getD k 0*m%18446744073709551616+(um zs l m k).2+0)%18446744073709551616=(l.getD k 0*m+(um zs l m k).2)%18446744073709551616:=by omega
  have ec:IntKind.u64.wrap (IntKind.u64.wrap (((l.getD k 0*m/18446744073709551616:Nat):Int)+(((l.getD k 0*m%18446744073709551616+(um zs l m k).2+0) /18446744073709551616:Nat):Int))+(((if zs.getD k 0<(l.getD k 0*m+(um zs l m k).2)%18446744073709551616 then 1 else 0):Nat):Int))=(((um zs l m (k+1)).2:Nat):Int):=by
   rw[eI,eI]
   congr 1
   simp only[um]
   generalize l.getD k 0*m=P at *
   split<;>omega
  rw[←hi] at i1 j1
  rw[←CI] at a1
  rw[ew] at a1 a2
  simp only[Nat.add_zero,Nat.sub_zero] at a2
  obtain ⟨h1,vQ,c1,x1⟩:=GK (call:=aQ (d+1)) (ds:=ds) (rc:=rc) (x1:=x1) (x3:=x3) (x4:=x4) (x5:=x5) (x6:=x6) (x8:=x8) (x9:=x9) (x10:=x10) (x11:=x11) (x12:=x12) (x13:=x13) (x14:=x14) (x15:=x15) (x16:=x16) (x20:=x20) (x21:=x21) (x22:=x22) (x23:=x23) (x24:=x24) (x25:=x25) (x26:=x26) (x27:=x27) (x28:=x28) (x29:=x29) (x30:=x30) (x31:=x31) (x32:=x32) (x33:=x33) (x34:=x34) (x35:=x35) (x36:=x36) (x37:=x37) (x38:=x38) (x39:=x39) (x40:=x40) (x41:=x41) (x42:=x42) (x43:=x43) (x44:=x44) (x45:=x45) (x46:=x46) (x47:=x47) (x48:=x48) (x49:=x49) (x50:=x50) (x51:=x51) (x52:=x52) (x53:=x53) (x54:=x54) (x55:=x55) (z:=z) (a:=a) (m:=(m:Nat)) (ca:=ca) (i:=i) (n:=(l.length:Nat)) hc.1 o! (dT o!) i1 l1 (fun hh _ _ _=>r8 _ _ (wl.getD k) hm) a1 j1 zl a2 hc.2.1 o! w2
  rw[ec] at vQ
  rw[sL] at c1
  obtain ⟨h',y0,y1,y2,y3,y4,y5,y6,y7,y8,y9,gP,vP,sR,By,pO,zM,uk,ET,sP,sQ,EU,KT,KU,KV,KW,KX,KY,KZ,K0,K1,K2,TM,TN,TO,TP,TQ,TR,TS,TU,TV,TW,y41,y42,y43,y44,y45,y46,y47,y48,y49,y50,y51,y52,y53,y54,y55,ev,hp⟩:=zQ hz hn Q6 hC ha oa wl wz hm po r (k+1) (i+1) h1 o! o! (hc.trans c1) o! _ _ _ _ _ _ _ _ _ _ _ _ _ _ _ _ _ _ _ _ _ _ _ _ _ _ _ _ _ _ _ _ _ _ _ _ _ _ _ _ _ _ _ _ _ _ _ _ _ _ _ rfl
  exact ⟨h',y0,y1,y2,y3,y4,y5,y6,y7,y8,y9,gP,vP,sR,By,pO,zM,uk,ET,sP,sQ,EU,KT,KU,KV,KW,KX,KY,KZ,K0,K1,K2,TM,TN,TO,TP,TQ,TR,TS,TU,TV,TW,y41,y42,y43,y44,y45,y46,y47,y48,y49,y50,y51,y52,y53,y54,y55,Ev.loop vQ ev,hp⟩
theorem Sa {d:Nat} {h:ah} {z a:AV} {l zs:List Nat} {m:Nat} {p o n:Nat} {C:List AV} {f:TypeId} (hz:EL h z p o n C f) (I2:0<l.length) (hn:l.length≤n) (Q6:l.length≤zs.length) (hC:Holds .u64 C o zs) (ha:ao env h .u64 54 a l) (oa:mj p a) (wl:Words l) (wz:Words zs) (hm:m<18446744073709551616) (hy:Tidy h) (po:0≤h.nx):
 ∃hk,aQ (d+2) (.fn 166) [z,a,.int .u64 (m:Int)] h= .ret (.int .u64 ((um zs l m l.length).2:Nat)) hk∧nj h hk p (.cells (setFrom C o (aA .u64 (um zs l m l.length).1)) f false)∧hk.nx=h.nx:=by
 obtain ⟨r,e1,w1⟩:=hz.slice (E:=env) (e:=54) (t:=56) k! k! none (some (.int .i64 (l.length:Nat))) (.inr ⟨rfl,rfl⟩) (.inl rfl) (Nat.zero_le _) hn o!
 simp only[Nat.add_zero,Nat.sub_zero] at w1
 have ek:∀k,k≤l.length→um (zs.take l.length) l m k=um zs l m k:=by
  intro k
  induction k with
  | zero=>intro _;rfl
  | succ k ih=>
   intro hk
   have:(zs.take l.length).getD k 0=zs.getD k 0:=by
    rw[List.getD_eq_getElem?_getD,List.getD_eq_getElem?_getD,List.getElem?_take_of_lt o!]
   simp only[um,ih o!,this]
 obtain ⟨h1,y0,y1,y2,y3,y4,y5,y6,y7,y8,y9,gP,vP,sR,By,pO,zM,uk,ET,sP,sQ,EU,KT,KU,KV,KW,KX,KY,KZ,K0,K1,K2,TM,TN,TO,TP,TQ,TR,TS,TU,TV,TW,y41,y42,y43,y44,y45,y46,y47,y48,y49,y50,y51,y52,y53,y54,y55,ev,rfl,c1,x1⟩:=zQ (d:=d) (ds:=[]) (rc:= .no) (zs:=zs.take l.length) w1 rfl (by simp;omega) (fun i z hz=>hC i z (by
  have:=(List.getElem?_eq_some_iff.1 hz).1
  rw[List.length_take] at this
  rw[List.getElem?_take_of_lt o!] at hz;exact hz)) ha oa wl (fun w hw=>wz w (List.mem_of_mem_take hw)) hm po l.length 0 0 h o! rfl (nj.refl hy hz.get) rfl 0 _ _ _ _ _ _ _ _ _ _ _ _ _ _ _ _ _ _ _ _ _ _ _ _ _ _ _ _ _ _ _ _ _ _ _ _ _ _ _ _ _ _ _ _ _ _ _ _ _ _ rfl
 rw[ek _ (Nat.le_refl _)] at ev c1
 exact dQ rfl (az Tryz.func166 R' k! (.inr rfl) (On hy po c1.1 o! ha.len e1 ev) k!) c1 hy hz.get x1
noncomputable def kY:Code:=(Tryz.f130.body).getD .skip
theorem BQ:Tryz.f130.body=some kY:=by kernel_rfl
noncomputable def qC:Code:=(aY kY).getD 0 .skip
theorem T_ {z x:List Nat} {m:Nat} (wz:Words z) (wx:Words x) (hm:m<18446744073709551616):∀k,k≤x.length→k≤z.length→ay (z.take k)+18446744073709551616^k*(um z x m k).2=ay (um z x m k).1+ay (x.take k)*m
 | 0,_,_=>by simp [um,ay]
 | k+1,hx,hz=>by
  have ih:=T_ (z:=z) (x:=x) (m:=m) wz wx hm k o! o!
  have hb:=uS (z:=z) (x:=x) (m:=m) wx hm k
  have b1:=wz.getD k
  rw[cM o!,cM o!]
  simp only[um]
  rw[jR,BP,Nat.add_mul,Nat.pow_succ]
  generalize (um z x m k).2=bo at *
  generalize ay (um z x m k).1=V at *
  generalize hP:x.getD k 0*m=P at *
  generalize z.getD k 0=Z at *
  have hP2:18446744073709551616^k*x.getD k 0*m=18446744073709551616^k*P:=by rw[←hP,Nat.mul_assoc]
  rw[hP2]
  generalize 18446744073709551616^k=M at *
  obtain ⟨w,hw⟩:∃w,w=(Z+18446744073709551616 -(P+bo)%18446744073709551616)%18446744073709551616:=⟨_,rfl⟩
  obtain ⟨c,hc⟩:∃c,c=(P+bo) /18446744073709551616+(if Z<(P+bo)%18446744073709551616 then 1 else 0):=⟨_,rfl⟩
  rw[←hw,←hc]
  have E:Z+18446744073709551616*c=w+(P+bo):=by rw[hw,hc];split<;>omega
  have EM:=congrArg (M* ·) E
  simp only[Nat.mul_add] at EM
  rw[Nat.mul_assoc]
  omega
theorem Jv {z x:List Nat} {m:Nat}:∀k,Words (um z x m k).1
 | 0=>fun _ h=>by cases h
 | k+1=>fun w h=>by
  rcases List.mem_append.1 h with h | h
  · exact Jv k w h
  · rcases List.mem_singleton.1 h with rfl
    exact Nat.mod_lt _ (by decide)
theorem GN {M a b c e:Nat} (h:a+M*b=c+M*e) (ha:a<M) (hc:c<M):a=c:=by
 have h1:=congrArg (· %M) h
 simp only[Nat.add_mul_mod_self_left,Nat.mod_eq_of_lt ha,Nat.mod_eq_of_lt hc] at h1
 exact h1
theorem aic {K xl dl x2 x1 x0 d1 d0 G X D:Nat} (hX:X=xl+K*(x0+18446744073709551616*(x1+18446744073709551616*x2))) (hD:D=dl+K*(d0+18446744073709551616*d1)) (Tn:xl<K) (hdl:dl<K) (hx1:x1<18446744073709551616) (hd0:d0<18446744073709551616) (hG:G<18446744073709551616) (GO:9223372036854775808≤d1) (gL:X<D*18446744073709551616)
 (g1:x2<d1→Ju (x2*18446744073709551616+x1) x0 d1 d0 G) (g2:d1≤x2→G=18446744073709551615):G*D≤X+D∧X<(G+1)*D:=by
 by_cases q:x2<d1
 · obtain ⟨R,r1,r2,r3⟩:=g1 q
   obtain ⟨Xt,hXt⟩:∃Xt,Xt=x0+18446744073709551616*(x1+18446744073709551616*x2):=⟨_,rfl⟩
   obtain ⟨D2,hD2⟩:∃D2,D2=d0+18446744073709551616*d1:=⟨_,rfl⟩
   rw[←hXt] at hX
   rw[←hD2] at hD
   have e1:G*D2=G*d0+18446744073709551616*(G*d1):=by rw[hD2,Nat.mul_add,Nat.mul_left_comm]
   have e2:(G+1)*D2=(G+1)*d0+18446744073709551616*((G+1)*d1):=by rw[hD2,Nat.mul_add,Nat.mul_left_comm]
   have l1:G*D2≤Xt:=by rw[e1];omega
   have l2:Xt+1≤(G+1)*D2:=by
    rw[e2]
    generalize (G+1)*d1=Y at *
    generalize (G+1)*d0=Z at *
    omega
   have m1:=Nat.mul_le_mul_left K l1
   have m2:=Nat.mul_le_mul_left K l2
   have e3:G*D=G*dl+K*(G*D2):=by rw[hD,Nat.mul_add,Nat.mul_left_comm]
   have e4:(G+1)*D=(G+1)*dl+K*((G+1)*D2):=by rw[hD,Nat.mul_add,Nat.mul_left_comm]
   have m3:G*dl≤D2*K:=Nat.mul_le_mul o! (Nat.le_of_lt hdl)
   rw[Nat.mul_comm D2] at m3
   rw[Nat.mul_add,Nat.mul_one] at m2
   constructor
   · omega
   · omega
 · have hG':=g2 (Nat.not_lt.1 q)
   subst hG'
   refine ⟨?_,by omega⟩
   have h1:18446744073709551614*(d0+18446744073709551616*d1+1)≤x0+18446744073709551616*(x1+18446744073709551616*x2):=by omega
   have m1:=Nat.mul_le_mul_left K h1
   have e1:K*(18446744073709551614*(d0+18446744073709551616*d1+1))=18446744073709551614*(K*(d0+18446744073709551616*d1))+18446744073709551614*K:=by
    rw[Nat.mul_left_comm,Nat.mul_add K,Nat.mul_one,Nat.mul_add]
   omega
theorem ak9 {xs:List Nat} {n:Nat} (hx:xs.length=n+1) (hn:2≤n):ay xs=ay (xs.take (n - 2))+18446744073709551616^(n - 2)*(xs.getD (n - 2) 0+18446744073709551616*(xs.getD (n - 1) 0+18446744073709551616*xs.getD n 0)):=by
 have e:=cF (xs.take (n - 2)) (xs.drop (n - 2))
 rw[List.take_append_drop] at e
 rw[e,List.length_take,Nat.min_eq_left o!]
 rw[drop_cons (l:=xs) (j:=n - 2) o!,show n - 2+1=n - 1 by omega,drop_cons (l:=xs) (j:=n - 1) o!,show n - 1+1=n by omega,drop_cons (l:=xs) (j:=n) o!,List.drop_of_length_le o!]
 simp [ay]
theorem aid {xs:List Nat} {n:Nat} (hx:xs.length=n) (hn:2≤n):ay xs=ay (xs.take (n - 2))+18446744073709551616^(n - 2)*(xs.getD (n - 2) 0+18446744073709551616*xs.getD (n - 1) 0):=by
 have e:=cF (xs.take (n - 2)) (xs.drop (n - 2))
 rw[List.take_append_drop] at e
 rw[e,List.length_take,Nat.min_eq_left o!]
 rw[drop_cons (l:=xs) (j:=n - 2) o!,show n - 2+1=n - 1 by omega,drop_cons (l:=xs) (j:=n - 1) o!,List.drop_of_length_le o!]
 simp [ay]
theorem fu {l:List Nat} (w:Words l) (k:Nat) (hk:k≤l.length):ay (l.take k)<18446744073709551616^k:=by
 have:=kN (w.take k)
 rwa [List.length_take,Nat.min_eq_left hk] at this
theorem VX {xs ds W:List Nat} {n G bo:Nat} (hx:xs.length=n+1) (hd:ds.length=n) (wx:Words xs) (wd:Words ds) (wW:Words W) (hW:W.length=n) (hv:ay (xs.take n)+18446744073709551616^n*bo=ay W+ay ds*G) (DM:G*ay ds≤ay xs+ay ds) (E8:ay xs<(G+1)*ay ds):
 (¬xs.getD n 0<bo→ay xs/ay ds=G∧ay W=ay xs%ay ds)∧(xs.getD n 0<bo→1≤G∧ay xs/ay ds=G - 1∧∀(V:List Nat) (cy:Nat),Words V→V.length=n→ay V+18446744073709551616^n*cy=ay W+ay ds→ay V=ay xs%ay ds):=by
 have hD:0<ay ds:=by
  rcases Nat.eq_zero_or_pos (ay ds) with h | h
  · rw[h] at E8;omega
  · exact h
 have hDM:=kN wd
 have hWM:=kN wW
 rw[hd] at hDM
 rw[hW] at hWM
 have eX:ay xs=ay (xs.take n)+18446744073709551616^n*xs.getD n 0:=by
  have:=cM (l:=xs) (k:=n) o!
  rw[List.take_of_length_le o!] at this
  exact this
 obtain ⟨M,hM⟩:∃M,M=18446744073709551616^n:=⟨_,rfl⟩
 rw[←hM] at hv hDM hWM eX ⊢
 rw[Nat.mul_comm (ay ds) G] at hv
 generalize ay ds=D at *
 generalize ay xs=X at *
 generalize ay (xs.take n)=A at *
 generalize xs.getD n 0=xn at *
 constructor
 · intro hc
   obtain ⟨e,rfl⟩:∃e,xn=bo+e:=⟨xn - bo,by omega⟩
   rw[Nat.mul_add] at eX
   rw[Nat.succ_mul] at E8
   have e1:X=G*D+(ay W+M*e):=by omega
   have e2:ay W+M*e<D:=by omega
   have e3:ay W=(ay W+M*e):=GN (M:=M) (b:=e) (e:=0) (by rw[Nat.mul_zero,Nat.add_zero]) hWM o!
   constructor
   · rw[e1,Nat.mul_comm G D,Nat.mul_add_div hD,Nat.div_eq_of_lt e2,Nat.add_zero]
   · rw[e1,Nat.mul_comm G D,Nat.mul_add_mod,Nat.mod_eq_of_lt e2];exact e3
 · intro hc
   obtain ⟨e,rfl⟩:∃e,bo=xn+1+e:=⟨bo - xn - 1,by omega⟩
   rw[Nat.mul_add,Nat.mul_add,Nat.mul_one] at hv
   have hG:1≤G:=by
    rcases Nat.eq_zero_or_pos G with h | h
    · rw[h] at hv;omega
    · exact h
   have e0:=pred_mul (d:=D) hG
   obtain ⟨R,e1⟩:∃R,X=(G - 1)*D+R:=⟨X -(G - 1)*D,by omega⟩
   have e2:R<D:=by omega
   refine ⟨hG,?_,fun V cy wV hV hcy=>?_⟩
   · rw[e1,Nat.mul_comm (G - 1) D,Nat.mul_add_div hD,Nat.div_eq_of_lt e2,Nat.add_zero]
   · rw[e1,Nat.mul_comm (G - 1) D,Nat.mul_add_mod,Nat.mod_eq_of_lt e2]
     have hVM:=kN wV
     rw[hV,←hM] at hVM
     refine GN (M:=M) (b:=cy) (e:=1+e) ?_ hVM o!
     rw[Nat.mul_add,Nat.mul_one]
     omega
theorem BR {d:Nat} {hs:ah} {ds:List cC} {rc:RC} {E l:List Nat} {n p o c:Nat} {op:Bool} {C:List AV} {f:TypeId} {dv w5 w6:AV} (wE:Words E) (wl:Words l) (hE:E.length=n+1) (hl:l.length=n) (gD:n<2^30) (hf:o+(n+1)≤C.length) (nd:ao env hs .u64 54 dv l) (od:mj p dv):
 ∀(k j:Nat) (h:ah) (D dn:List Nat) (cy:Nat),j+k=n→D=dn++E.drop j→dn.length=j→Words dn→cy≤1→ay dn+18446744073709551616^j*cy=ay (E.take j)+ay (l.take j)→Tidy h→Kept p hs h→h.nx=hs.nx→h.get p=some (.cells (setFrom C o (aA .u64 D)) f false)→∀x:Nat→AV,
  ∃h',(∃y:Nat→AV,Ev env (aQ (d+4)) (.loop qC) ⟨((AV.slice p o (n+1) c op)::rx x 1 4 (w5::w6::(x 7)::(ae cy)::rx x 9 43 (dv::(ag n)::(ag j)::rx x 55 22 []))),h,ds,rc⟩ (.exit 0) ⟨((AV.slice p o (n+1) c op)::rx y 1 4 (w5::w6::rx y 7 70 [])),h',ds,rc⟩)∧∃V cy,V.length=n∧Words V∧ay V+18446744073709551616^n*cy=ay (E.take n)+ay l∧Tidy h'∧Kept p hs h'∧h'.nx=hs.nx∧h'.get p=some (.cells (setFrom C o (aA .u64 (V++E.drop n))) f false)
 | 0,j,h,D,dn,cy,hk,hD,Mx,wdn,hcy,hv,aw,kp,hx,hg,x=>by
  have hj:j=n:=by omega
  have q1:=cI ((j:Int)<(n:Int))
  have ev:=vG (d+4) qC ((AV.slice p o (n+1) c op)::rx x 1 4 (w5::w6::(x 7)::(ae cy)::rx x 9 43 (dv::(ag n)::(ag j)::rx x 55 22 []))) h ds rc (.exit 0) h (VV (bh 3 false false .i64 (j:Int) (n:Int))<|BB q1<|ZZ) k!
  subst hj
  rw[List.take_of_length_le (l:=l) o!] at hv
  subst hD
  exact ⟨h,cT (Ev.out ev) k!,dn,cy,Mx,wdn,hv,aw,kp,hx,hg⟩
 | k+1,j,h,D,dn,cy,hk,hD,Mx,wdn,hcy,hv,aw,kp,hx,hg,x=>by
  have GC:D.length=n+1:=by rw[hD];simp;omega
  have Qm:D.getD j 0=E.getD j 0:=by rw[hD];exact N4 Mx
  have b1:D.getD j 0<18446744073709551616:=by rw[Qm];exact wE.getD j
  have b2:=wl.getD j
  have q1:=dg ((j:Int)<(n:Int))
  obtain ⟨p2,q3,yX,vp⟩:=((nd.kept kp od)).j8 (j:Int) (show j<l.length by omega)
  have R5:bq env (some (.slice 54)) (some (AV.slice p o (n+1) c op)) (some (ag j))=some (AV.ptr p (o+j)):=a8 k! (show j<(n+1) by omega) o!
  have T':bk env h 54 (AV.ptr p (o+j))=some (ae (D.getD j 0)):=ku k! o! hg (show j<D.length by omega)
  have e8:jk [(ae (D.getD j 0)),(ae (l.getD j 0)),(ae cy)]=some (AV.tuple [(ae (((D.getD j 0)+(l.getD j 0)+cy)%18446744073709551616)),(ae (((D.getD j 0)+(l.getD j 0)+cy) /18446744073709551616))]):=fL (D.getD j 0) (l.getD j 0) cy o!
  have Sb:bq env (some (.slice 54)) (some (AV.slice p o (n+1) c op)) (some (ag j))=some (AV.ptr p (o+j)):=a8 k! (show j<(n+1) by omega) o!
  obtain ⟨lx,qD,lJ,dE,wU⟩:=iJ 54 j (((D.getD j 0)+(l.getD j 0)+cy)%18446744073709551616) aw o! hg (show j<D.length by omega)
  have dm:Kept p h lx:=lJ.2.2
  have Zl:=fS ((j:Int)+1)
  have ev:=vG (d+4) qC ((AV.slice p o (n+1) c op)::rx x 1 4 (w5::w6::(x 7)::(ae cy)::rx x 9 43 (dv::(ag n)::(ag j)::rx x 55 22 []))) h ds rc .normal lx (VV (bh 3 false false .i64 (j:Int) (n:Int))<|BB q1<|CC<|VV yX<|MM vp<|CN 6<|VV R5<|MM T'<|CN 2<|QQ e8<|CN 3<|VV Sb<|SS qD<|CC<|VV (iI 3 false true Zl)<|CC<|ZZ) k!
  have eD:D.set j ((D.getD j 0+l.getD j 0+cy)%18446744073709551616)=(dn++[(D.getD j 0+l.getD j 0+cy)%18446744073709551616])++E.drop (j+1):=by
   generalize (D.getD j 0+l.getD j 0+cy)%18446744073709551616=V
   rw[hD]
   exact K5 Mx o!
  have g1:=lJ.2.1
  rw[eD] at g1
  refine dj ev k! fun x=>BR wE wl hE hl gD hf nd od k (j+1) lx _ _ ((D.getD j 0+l.getD j 0+cy) /18446744073709551616) o! rfl (by simp;omega) (wdn.append (Words.one (Nat.mod_lt _ (by decide)))) o! ?_ dE (kp.trans dm) o! g1 x
  rw[jR,Mx,cM (l:=E) o!,cM (l:=l) o!,←Qm,Nat.pow_succ,Nat.mul_assoc]
  have EM:=congrArg (18446744073709551616^j* ·) (Nat.mod_add_div (D.getD j 0+l.getD j 0+cy) 18446744073709551616)
  simp only[Nat.mul_add] at EM
  omega
theorem La {d:Nat} {h:ah} {n p o c:Nat} {op:Bool} {C:List AV} {f:TypeId} {xs l:List Nat} {dv:AV} (hx:xs.length=n+1) (hl:l.length=n) (hn:2≤n) (gD:n<2^30) (wx:Words xs) (wl:Words l) (hC:Holds .u64 C o xs) (hg:h.get p=some (.cells C f false)) (hf:o+(n+1)≤C.length) (hc:n+1≤c) (nd:ao env h .u64 54 dv l) (od:mj p dv) (GO:9223372036854775808≤l.getD (n - 1) 0) (gL:ay xs<ay l*18446744073709551616) (aw:Tidy h):
 ∃ws hk,aQ (d+5) (.fn 130) [.slice p o (n+1) c op,dv] h= .ret (.int .u64 ((ay xs/ay l:Nat):Int)) hk∧nj h hk p (.cells (setFrom C o (aA .u64 ws)) f false)∧hk.nx=h.nx∧ws.length=n+1∧Words ws∧ay ws=ay xs%ay l:=by
 have uR:h.get p=some (.cells (setFrom C o (aA .u64 xs)) f false):=by rw[KP hC];exact hg
 obtain ⟨G,kg,lG,gA,gB⟩:=Ol (d:=d) (h:=h) (x2:=xs.getD n 0) (x1:=xs.getD (n - 1) 0) (x0:=xs.getD (n - 2) 0) (d1:=l.getD (n - 1) 0) (d0:=l.getD (n - 2) 0) (wx.getD _) (wx.getD _) o! (wl.getD _) (wl.getD _) aw
 obtain ⟨kn1,kn2⟩:=aic (ak9 hx hn) (aid hl hn) (fu wx (n - 2) o!) (fu wl (n - 2) o!) (wx.getD _) (wl.getD _) lG GO gL gA gB
 obtain ⟨h1,vI,sV,bm⟩:=Sa (d:=d+2) (z:= .slice p o n c op) (a:=dv) (l:=l) (zs:=xs) (m:=G) (p:=p) (o:=o) (n:=n) (C:=C) (f:=f) ⟨⟨c,op,rfl,by omega⟩,hg,by omega⟩ o! o! o! hC nd od wl wx lG aw (Nat.zero_le _)
 have yY:=T_ wx wl lG n o! o!
 have hbo:=uS (z:=xs) wl lG n
 have hWl:=BP xs l G n
 have wW:Words (um xs l G n).1:=by
  intro w hw
  exact Jv _ w hw
 rw[hl] at vI sV
 obtain ⟨W,hW⟩:∃W,W=(um xs l G n).1:=⟨_,rfl⟩
 obtain ⟨bo,hb⟩:∃bo,bo=(um xs l G n).2:=⟨_,rfl⟩
 rw[←hW] at sV yY hWl wW
 rw[←hb] at vI yY hbo
 rw[List.take_of_length_le (l:=l) o!] at yY
 obtain ⟨sm1,sm2⟩:=VX hx hl wx wl wW hWl yY kn1 kn2
 obtain ⟨E,hE⟩:∃E,E=W++[xs.getD n 0]:=⟨_,rfl⟩
 have hEl:E.length=n+1:=by rw[hE];simp [hWl]
 have hEn:E.getD n 0=xs.getD n 0:=by rw[hE,List.getD_eq_getElem?_getD,List.getElem?_append_right o!];simp [hWl]
 have hEt:E.take n=W:=by rw[hE,List.take_append_of_le_length o!,List.take_of_length_le o!]
 have Eg:E.drop n=[xs.getD n 0]:=by rw[hE,List.drop_append_of_le_length o!,List.drop_of_length_le o!,List.nil_append]
 have wE:Words E:=by rw[hE];exact wW.append (Words.one (wx.getD _))
 have ge:setFrom C o (aA .u64 W)=setFrom C o (aA .u64 E):=by
  rw[hE,th,mB,aM,hWl]
  have e1:=hC n _ (fK (l:=xs) (k:=n) o!)
  apply List.ext_getElem?
  intro i
  rw[List.getElem?_set]
  split
  · rename_i hi
    subst hi
    rw[if_pos (by rw[cV];omega),fV,if_neg (by rw[aM];omega)]
    exact e1
  · rfl
 rw[ge] at sV
 have aK:=sV.1
 have aC:=sV.2.1
 have kp1:Kept p h h1:=sV.2.2
 have hW0:W++[0]=(W++[xs.getD n 0]).set n 0:=by
  rw[List.set_append_right _ _ o!,hWl,Nat.sub_self];rfl
 by_cases hbb:xs.getD n 0<bo
 · obtain ⟨hG1,hq,ala⟩:=sm2 hbb
   have ix1:bq env (some (.slice 54)) (some (AV.slice p o (n+1) c op)) (some (ag n))=some (AV.ptr p (o+n)):=a8 k! (show n<(n+1) by first | omega | (simp [lV,Eg]<;>omega)) o!
   have ld2:bk env h 54 (AV.ptr p (o+n))=some (ae (xs.getD n 0)):=ku k! o! uR (show n<xs.length by first | omega | (simp [lV,Eg]<;>omega))
   have w3:=fS ((n:Int) - 1)
   have yX:bq env (some (.slice 54)) (some (AV.slice p o (n+1) c op)) (some (af ((n:Int) - 1)))=some (AV.ptr p (o+(n - 1))):=a8 k! (show (n - 1)<(n+1) by first | omega | (simp [lV,Eg]<;>omega)) o!
   have vp:bk env h 54 (AV.ptr p (o+(n - 1)))=some (ae (xs.getD (n - 1) 0)):=ku k! o! uR (show (n - 1)<xs.length by first | omega | (simp [lV,Eg]<;>omega))
   have w6:=fS ((n:Int) - 2)
   have N5:bq env (some (.slice 54)) (some (AV.slice p o (n+1) c op)) (some (af ((n:Int) - 2)))=some (AV.ptr p (o+(n - 2))):=a8 k! (show (n - 2)<(n+1) by first | omega | (simp [lV,Eg]<;>omega)) o!
   have Jw:bk env h 54 (AV.ptr p (o+(n - 2)))=some (ae (xs.getD (n - 2) 0)):=ku k! o! uR (show (n - 2)<xs.length by first | omega | (simp [lV,Eg]<;>omega))
   obtain ⟨p9,Dj,GP,Lb⟩:=nd.j8 ((n:Int) - 1) (show (n - 1)<l.length by first | omega | (simp [lV,Eg]<;>omega))
   obtain ⟨Om,Ua,Lc,BS⟩:=nd.j8 ((n:Int) - 2) (show (n - 2)<l.length by first | omega | (simp [lV,Eg]<;>omega))
   have agb:aZ env 56 (AV.slice p o (n+1) c op) (none) (some (ag n)) (none)=some (AV.slice p o n c op):=gI (e:=54) k! k! o! o! o! o!
   have aD:Kept p h h1:=kp1
   have Sc:bq env (some (.slice 54)) (some (AV.slice p o (n+1) c op)) (some (ag n))=some (AV.ptr p (o+n)):=a8 k! (show n<(n+1) by first | omega | (simp [lV,Eg]<;>omega)) o!
   have agc:bk env h1 54 (AV.ptr p (o+n))=some (ae (E.getD n 0)):=ku k! o! aC (show n<E.length by first | omega | (simp [lV,Eg]<;>omega))
   have VY:=dg (((E.getD n 0:Nat):Int)<(bo:Int))
   have Zr:=M3 54 false true G 1
   obtain ⟨h23,⟨ane,acT⟩,V,cy,lV,wV,vV,GQ,agd,Zs,zR⟩:=BR (d:=d) (hs:=h1) (ds:=[]) (rc:= .no) (c:=c) (op:=op) (w5:=(ag n)) (w6:=(ae (G - 1))) wE wl hEl hl gD hf (nd.kept kp1 od) od n 0 h1 E [] 0 o! (by simp) rfl Words.nil (by decide) (by simp [ay]) aK (Kept.refl _ _) rfl aC (fun k_=>(((AV.slice p o (n+1) c op)::dv::aB::aB::(aa 0)::(ag n)::(ae (G - 1))::(ae bo)::(aa 0)::aB::aB::dv::(ag n)::(AV.slice p o (n+1) c op)::(ag n)::(AV.ptr p (o+n))::(ae (xs.getD n 0))::(AV.slice p o (n+1) c op)::(ag n)::(af ((n:Int) - 1))::(AV.ptr p (o+(n - 1)))::(ae (xs.getD (n - 1) 0))::(AV.slice p o (n+1) c op)::(ag n)::(af ((n:Int) - 2))::(AV.ptr p (o+(n - 2)))::(ae (xs.getD (n - 2) 0))::dv::(ag n)::(af ((n:Int) - 1))::(AV.ptr p9 Dj)::(ae (l.getD (n - 1) 0))::dv::(ag n)::(af ((n:Int) - 2))::(AV.ptr Om Ua)::(ae (l.getD (n - 2) 0))::(ae G)::(AV.slice p o (n+1) c op)::(ag n)::(AV.slice p o n c op)::dv::(ae G)::(ae bo)::(AV.slice p o (n+1) c op)::(ag n)::(AV.ptr p (o+n))::(ae (E.getD n 0))::(ae bo)::(aj (decide (((E.getD n 0:Nat):Int)<(bo:Int))))::(ae G)::(ae (G - 1))::dv::(ag n)::(af 0)::aV 22):List AV).getD k_ aB)
   have Eh:Kept p h h23:=kp1.trans agd
   have GR:bq env (some (.slice 54)) (some (AV.slice p o (n+1) c op)) (some (ag n))=some (AV.ptr p (o+n)):=a8 k! (show n<(n+1) by first | omega | (simp [lV,Eg]<;>omega)) o!
   obtain ⟨Ub,wZ,qE,qF,Jx⟩:=iJ 54 n 0 GQ (by simp [lV,Eg]<;>omega) zR (show n<(V++E.drop n).length by first | omega | (simp [lV,Eg]<;>omega))
   have o7:Kept p h Ub:=Eh.trans qE.2.2
   have ev:=pk (d+4) kY ((AV.slice p o (n+1) c op)::dv::aV 75) h .ret Ub (CN 2<|VV (show dO (some (.slice 54)) (some dv)=some (ag n) from (by rw[←hl];exact (nd).len))<|CN 3<|VV ix1<|MM ld2<|CN 2<|VV (bT 3 false true w3)<|VV yX<|MM vp<|CN 2<|VV (bT 3 false true w6)<|VV N5<|MM Jw<|CN 2<|VV (bT 3 false true w3)<|VV GP<|MM Lb<|CN 2<|VV (bT 3 false true w6)<|VV Lc<|MM BS<|EE kg<|CC<|HH ld2<|HH (show AV.same 20 (ae (xs.getD n 0)) (ae (xs.getD n 0))=true from aP 19 _ _)<|HH vp<|HH (show AV.same 20 (ae (xs.getD (n - 1) 0)) (ae (xs.getD (n - 1) 0))=true from aP 19 _ _)<|HH Jw<|HH (show AV.same 20 (ae (xs.getD (n - 2) 0)) (ae (xs.getD (n - 2) 0))=true from aP 19 _ _)<|HH Lb<|HH (show AV.same 20 (ae (l.getD (n - 1) 0)) (ae (l.getD (n - 1) 0))=true from aP 19 _ _)<|HH BS<|HH (show AV.same 20 (ae (l.getD (n - 2) 0)) (ae (l.getD (n - 2) 0))=true from aP 19 _ _)<|CN 2<|QQ agb<|CN 2<|EE vI<|CN 3<|VV Sc<|MM agc<|CC<|VV (bh 54 false false .u64 ((E.getD n 0:Nat):Int) (bo:Int))<|BB VY<|CC<|VV Zr<|CN 3<|VV (show dO (some (.slice 54)) (some dv)=some (ag n) from (by rw[←hl];exact ((nd.kept aD od)).len))<|CC<|LL acT<|CN 2<|VV GR<|SS wZ<|CN 2<|ZZ) k!
   have v1:=ala V cy wV lV (by rw[vV,hEt])
   have eL:(V++E.drop n).set n 0=V++[0]:=by
    rw[List.set_append_right _ _ o!,Eg,lV,Nat.sub_self];rfl
   rw[eL] at qE
   rw[←hq] at ev
   exact ⟨V++[0],dQ rfl (az Tryz.func130 BQ k! (.inr rfl) ev k!) ⟨qF,qE.2.1,o7⟩ aw hg o! |>.elim fun hk e=>⟨hk,e.1,e.2.1,e.2.2,by simp [lV],wV.append (Words.one (by decide)),by rw[cF];simp [ay,v1]⟩⟩
 · obtain ⟨hq,v1⟩:=sm1 hbb
   have ix1:bq env (some (.slice 54)) (some (AV.slice p o (n+1) c op)) (some (ag n))=some (AV.ptr p (o+n)):=a8 k! (show n<(n+1) by first | omega | (simp [lV,Eg]<;>omega)) o!
   have ld2:bk env h 54 (AV.ptr p (o+n))=some (ae (xs.getD n 0)):=ku k! o! uR (show n<xs.length by first | omega | (simp [lV,Eg]<;>omega))
   have w3:=fS ((n:Int) - 1)
   have yX:bq env (some (.slice 54)) (some (AV.slice p o (n+1) c op)) (some (af ((n:Int) - 1)))=some (AV.ptr p (o+(n - 1))):=a8 k! (show (n - 1)<(n+1) by first | omega | (simp [lV,Eg]<;>omega)) o!
   have vp:bk env h 54 (AV.ptr p (o+(n - 1)))=some (ae (xs.getD (n - 1) 0)):=ku k! o! uR (show (n - 1)<xs.length by first | omega | (simp [lV,Eg]<;>omega))
   have w6:=fS ((n:Int) - 2)
   have N5:bq env (some (.slice 54)) (some (AV.slice p o (n+1) c op)) (some (af ((n:Int) - 2)))=some (AV.ptr p (o+(n - 2))):=a8 k! (show (n - 2)<(n+1) by first | omega | (simp [lV,Eg]<;>omega)) o!
   have Jw:bk env h 54 (AV.ptr p (o+(n - 2)))=some (ae (xs.getD (n - 2) 0)):=ku k! o! uR (show (n - 2)<xs.length by first | omega | (simp [lV,Eg]<;>omega))
   obtain ⟨p9,Dj,GP,Lb⟩:=nd.j8 ((n:Int) - 1) (show (n - 1)<l.length by first | omega | (simp [lV,Eg]<;>omega))
   obtain ⟨Om,Ua,Lc,BS⟩:=nd.j8 ((n:Int) - 2) (show (n - 2)<l.length by first | omega | (simp [lV,Eg]<;>omega))
   have agb:aZ env 56 (AV.slice p o (n+1) c op) (none) (some (ag n)) (none)=some (AV.slice p o n c op):=gI (e:=54) k! k! o! o! o! o!
   have aD:Kept p h h1:=kp1
   have Sc:bq env (some (.slice 54)) (some (AV.slice p o (n+1) c op)) (some (ag n))=some (AV.ptr p (o+n)):=a8 k! (show n<(n+1) by first | omega | (simp [lV,Eg]<;>omega)) o!
   have agc:bk env h1 54 (AV.ptr p (o+n))=some (ae (E.getD n 0)):=ku k! o! aC (show n<E.length by first | omega | (simp [lV,Eg]<;>omega))
   have VY:=cI (((E.getD n 0:Nat):Int)<(bo:Int))
   have alb:bq env (some (.slice 54)) (some (AV.slice p o (n+1) c op)) (some (ag n))=some (AV.ptr p (o+n)):=a8 k! (show n<(n+1) by first | omega | (simp [lV,Eg]<;>omega)) o!
   obtain ⟨h22,Oo,Zt,BT,Zu⟩:=iJ 54 n 0 aK o! aC (show n<E.length by first | omega | (simp [lV,Eg]<;>omega))
   have zS:Kept p h h22:=aD.trans Zt.2.2
   have ev:=pk (d+4) kY ((AV.slice p o (n+1) c op)::dv::aV 75) h .ret h22 (CN 2<|VV (show dO (some (.slice 54)) (some dv)=some (ag n) from (by rw[←hl];exact (nd).len))<|CN 3<|VV ix1<|MM ld2<|CN 2<|VV (bT 3 false true w3)<|VV yX<|MM vp<|CN 2<|VV (bT 3 false true w6)<|VV N5<|MM Jw<|CN 2<|VV (bT 3 false true w3)<|VV GP<|MM Lb<|CN 2<|VV (bT 3 false true w6)<|VV Lc<|MM BS<|EE kg<|CC<|HH ld2<|HH (show AV.same 20 (ae (xs.getD n 0)) (ae (xs.getD n 0))=true from aP 19 _ _)<|HH vp<|HH (show AV.same 20 (ae (xs.getD (n - 1) 0)) (ae (xs.getD (n - 1) 0))=true from aP 19 _ _)<|HH Jw<|HH (show AV.same 20 (ae (xs.getD (n - 2) 0)) (ae (xs.getD (n - 2) 0))=true from aP 19 _ _)<|HH Lb<|HH (show AV.same 20 (ae (l.getD (n - 1) 0)) (ae (l.getD (n - 1) 0))=true from aP 19 _ _)<|HH BS<|HH (show AV.same 20 (ae (l.getD (n - 2) 0)) (ae (l.getD (n - 2) 0))=true from aP 19 _ _)<|CN 2<|QQ agb<|CN 2<|EE vI<|CN 3<|VV Sc<|MM agc<|CC<|VV (bh 54 false false .u64 ((E.getD n 0:Nat):Int) (bo:Int))<|BB VY<|CN 2<|VV alb<|SS Oo<|CN 2<|ZZ) k!
   have eL:E.set n 0=W++[0]:=by rw[hW0,hE]
   rw[eL] at Zt
   rw[←hq] at ev
   exact ⟨W++[0],dQ rfl (az Tryz.func130 BQ k! (.inr rfl) ev k!) ⟨BT,Zt.2.1,zS⟩ aw hg o! |>.elim fun hk e=>⟨hk,e.1,e.2.1,e.2.2,by simp [hWl],wW.append (Words.one (by decide)),by rw[cF];simp [ay,v1]⟩⟩
noncomputable def oN:Code:=(Tryz.f83.body).getD .skip
theorem Ld:Tryz.f83.body=some oN:=by kernel_rfl
noncomputable def mH:Code:=(aY oN).getD 0 .skip
theorem Dk {call:aE} {h:ah} {ds:List cC} {rc:RC} {x3 x4 x5 x6 x9 x10 x11 x12 x13 x14 x15 x16 x17 x18 x19 x20 x21 x22 x23 x24 x25 x26 x27 x28 x29:AV} {z a:AV} {dd ca i:Int} {p2 p3 C7 Ff:Nat} {y5 y7 y8:Int} {Uc:List AV} {Zv:TypeId} (aw:Tidy h) (ES:0≤h.nx) (q1:(decide (0≤i))=true) (c4:bq env (some (.slice 54)) (some a) (some (af i))=some (AV.ptr p2 p3)) (c6:bk env h 54 (AV.ptr p2 p3)=some (aa y5)) (k9:∀hh,Tidy hh→Has h hh→(h.nx≤hh.nx∧0≤hh.nx)→call (.fn 127) [(aa ca),(aa y5),(aa dd)] hh= .ret (AV.tuple [(aa y7),(aa y8)]) hh) (Qo:bq env (some (.slice 54)) (some z) (some (af i))=some (AV.ptr C7 Ff)) (GS:h.get C7=some (ar.cells Uc Zv false)) (ald:Ff<Uc.length) (w14:IntKind.i64.wrap (i - 1)=i - 1):
 ∃(tG:ah),Ev env call mH ⟨[z,a,(aa dd),x3,x4,x5,x6,(aa ca),(af i),x9,x10,x11,x12,x13,x14,x15,x16,x17,x18,x19,x20,x21,x22,x23,x24,x25,x26,x27,x28,x29],h,ds,rc⟩ .normal ⟨[z,a,(aa dd),x3,x4,x5,x6,(aa y8),(af (i - 1)),x9,x10,x11,(af i),(aj (decide (0≤i))),(af i),(af (i - 1)),(AV.tuple [(aa y7),(aa y8)]),z,(af i),(aa ca),a,(af i),(AV.ptr p2 p3),(aa y5),(aa dd),(AV.tuple [(aa y7),(aa y8)]),(aa y7),(aa y8),(AV.ptr C7 Ff),x29],tG,ds,rc⟩∧nj h tG C7 (ar.cells (Uc.set Ff (aa y7)) Zv false)∧tG.nx=h.nx:=by
 obtain ⟨tG,oe⟩:∃h',ch env h 54 (AV.ptr C7 Ff) (aa y7)=some h':=mA (n:=1) GS k! rfl o! z!
 have fl:=iU aw oe GS
 have Ei:=kq oe GS
 have aie:nj h tG C7 (ar.cells (Uc.set Ff (aa y7)) Zv false):=⟨fl,jP aw oe GS,fun i x hi gx=>gX aw oe GS hi gx⟩
 exact ⟨tG,aR (n:=200) (CC<|VV (bV 3 false true .i64 i 0)<|BB q1<|CN 5<|VV c4<|MM c6<|CC<|EE (show call (.fn 127) [(aa ca),(aa y5),(aa dd)] h= .ret (AV.tuple [(aa y7),(aa y8)]) h from k9 _ aw (Has.refl _) ⟨by omega,by omega⟩)<|CN 3<|VV Qo<|SS oe<|CN 2<|VV (bT 3 false true w14)<|CC<|ZZ) k!,aie,Ei⟩
theorem Dl {call:aE} {h:ah} {ds:List cC} {rc:RC} {x3 x4 x5 x6 x9 x10 x11 x12 x13 x14 x15 x16 x17 x18 x19 x20 x21 x22 x23 x24 x25 x26 x27 x28 x29:AV} {z a:AV} {dd ca i:Int} (q1:(decide (0≤i))=false):
 Ev env call mH ⟨[z,a,(aa dd),x3,x4,x5,x6,(aa ca),(af i),x9,x10,x11,x12,x13,x14,x15,x16,x17,x18,x19,x20,x21,x22,x23,x24,x25,x26,x27,x28,x29],h,ds,rc⟩ (.exit 0) ⟨[z,a,(aa dd),x3,x4,x5,x6,(aa ca),(af i),x9,x10,x11,(af i),(aj (decide (0≤i))),x14,x15,x16,x17,x18,x19,x20,x21,x22,x23,x24,x25,x26,x27,x28,x29],h,ds,rc⟩:=
 aR (n:=200) (CC<|VV (bV 3 false true .i64 i 0)<|BB q1<|ZZ) k!
theorem IG {call:aE} {h:ah} {z a:AV} {dd:Int} {n1 co:Int} {aif aih aii aij aik ail ale aim ain aes aet aeu aev aew aex aey aez aeA aeB aeC aeD aeE aeF aeG aeH aeI aeJ aeK aio:AV} {hz:ah} (aw:Tidy h) (ES:0≤h.nx) (afY:Tidy hz) (afZ:0≤hz.nx) (c2:dO (some (.slice 54)) (some a)=some (af n1)) (w3:IntKind.i64.wrap (n1 - 1)=n1 - 1) (e5:Ev env call (.loop mH) ⟨(z::a::(aa dd)::aB::aB::aB::(aa 0)::(aa 0)::(af (n1 - 1))::a::(af n1)::(af (n1 - 1))::aV 18),h,[],.no⟩ (.exit 0) ⟨[aif,aih,aii,aij,aik,ail,ale,(aa co),aim,ain,aes,aet,aeu,aev,aew,aex,aey,aez,aeA,aeB,aeC,aeD,aeE,aeF,aeG,aeH,aeI,aeJ,aeK,aio],hz,[],.no⟩):
 Ev env call oN ⟨(z::a::(aa dd)::aV 27),h,[],.no⟩ .ret ⟨[aif,aih,aii,aij,aik,ail,(aa co),(aa co),aim,ain,aes,aet,aeu,aev,aew,aex,aey,aez,aeA,aeB,aeC,aeD,aeE,aeF,aeG,aeH,aeI,aeJ,aeK,(aa co)],hz,[],.no⟩:=
 aR (n:=200) (CN 3<|VV c2<|VV (bT 3 false true w3)<|CC<|LL e5<|CN 2<|ZZ) k!
def yZ (l:List Nat) (e:Nat):Nat→List Nat×Nat
 | 0=>([],0)
 | m+1=>(((yZ l e m).2*18446744073709551616+l.getD (l.length -(m+1)) 0) /e::(yZ l e m).1,((yZ l e m).2*18446744073709551616+l.getD (l.length -(m+1)) 0)%e)
theorem GU {l:List Nat} {e:Nat} (he:0<e):∀m,(yZ l e m).2<e
 | 0=>he
 | m+1=>Nat.mod_lt _ he
theorem vq {d:Nat} {h0:ah} {ds:List cC} {rc:RC} {z a:AV} {l:List Nat} {e:Nat} {p o n:Nat} {C:List AV} {f:TypeId} (hz:EL h0 z p o n C f) (hn:l.length≤n) (ha:ao env h0 .u64 54 a l) (oa:mj p a) (wl:Words l) (he:0<e) (FU:e<18446744073709551616) (po:0≤h0.nx):
 ∀(k m:Nat) (i:Int) (h:ah),k+m=l.length→i=(k:Nat) - 1→nj h0 h p (.cells (setFrom C (o+k) (aA .u64 (yZ l e m).1)) f false)→h.nx=h0.nx→∀(ca:Int) (x:Nat→AV),ca=((yZ l e m).2:Nat)→
  ∃h',(∃y:Nat→AV,Ev env (aQ (d+3)) (.loop mH) ⟨[z,a,(ae e),(x 3),(x 4),(x 5),(x 6),(aa ca),(af i),(x 9),(x 10),(x 11),(x 12),(x 13),(x 14),(x 15),(x 16),(x 17),(x 18),(x 19),(x 20),(x 21),(x 22),(x 23),(x 24),(x 25),(x 26),(x 27),(x 28),(x 29)],h,ds,rc⟩ (.exit 0) ⟨[z,a,(ae e),(y 3),(y 4),(y 5),(y 6),(aa ((yZ l e l.length).2:Nat)),(y 8),(y 9),(y 10),(y 11),(y 12),(y 13),(y 14),(y 15),(y 16),(y 17),(y 18),(y 19),(y 20),(y 21),(y 22),(y 23),(y 24),(y 25),(y 26),(y 27),(y 28),(y 29)],h',ds,rc⟩)∧nj h0 h' p (.cells (setFrom C o (aA .u64 (yZ l e l.length).1)) f false)∧h'.nx=h0.nx
 | 0,m,i,h,hk,hi,hc,hx,ca,x,CI=>by
  obtain rfl:m=l.length:=by omega
  rw[CI]
  exact ⟨h,cT (Ev.out (Dl (dF o!))) k!,hc,hx⟩
 | k+1,m,i,h,hk,hi,hc,hx,ca,x,CI=>by
  have hs:=ha.small
  have ha':=ha.chg hc oa
  obtain ⟨p1,q1,i1,l1⟩:=ha'.elem (fK (show k<l.length by omega))
  have RM:EL h z p o n (setFrom C (o+(k+1)) (aA .u64 (yZ l e m).1)) f:=⟨hz.is,hc.2.1,by rw[cV];exact hz.fits⟩
  have j1:=RM.idx (E:=env) (e:=54) k! (show k<n by omega)
  have lt:=RM.fits
  have w2:=fS (i - 1)
  have br:=GU (l:=l) he m
  have ek:l.length -(m+1)=k:=by omega
  have dv:=fun hh y1 y2=>T9 (d:=d) (h:=hh) (yZ l e m).2 (l.getD k 0) e br (wl.getD k) FU y1 y2
  have sL:(setFrom C (o+(k+1)) (aA .u64 (yZ l e m).1)).set (o+k) (.int .u64 ((((yZ l e m).2*18446744073709551616+l.getD k 0) /e:Nat):Int))=setFrom C (o+k) (aA .u64 (yZ l e (m+1)).1):=by
   simp only[yZ,ek]
   rw[show o+(k+1)=o+k+1 by omega,KM];rfl
  have Im:i=(k:Nat):=by omega
  have hin:i - 1=(k:Nat) - 1:=by omega
  have hle:0≤h.nx:=by omega
  have alf:k+(m+1)=l.length:=by omega
  have gL:o+k<(setFrom C (o+(k+1)) (aA .u64 (yZ l e m).1)).length:=by omega
  have h0i:0≤i:=by omega
  rw[←Im] at i1 j1
  rw[←CI] at dv
  obtain ⟨h1,vQ,c1,x1⟩:=Dk (call:=aQ (d+3)) (ds:=ds) (rc:=rc) (x3:=x 3) (x4:=x 4) (x5:=x 5) (x6:=x 6) (x9:=x 9) (x10:=x 10) (x11:=x 11) (x12:=x 12) (x13:=x 13) (x14:=x 14) (x15:=x 15) (x16:=x 16) (x17:=x 17) (x18:=x 18) (x19:=x 19) (x20:=x 20) (x21:=x 21) (x22:=x 22) (x23:=x 23) (x24:=x 24) (x25:=x 25) (x26:=x 26) (x27:=x 27) (x28:=x 28) (x29:=x 29) (z:=z) (a:=a) (dd:=(e:Nat)) (ca:=ca) (i:=i) hc.1 o! (dT h0i) i1 l1 (fun hh y1 _ y2=>dv hh y1 o!) j1 hc.2.1 gL w2
  rw[sL] at c1
  have x1':h1.nx=h0.nx:=by omega
  have hr:(((yZ l e m).2*18446744073709551616+l.getD k 0)%e:Nat)=(yZ l e (m+1)).2:=by simp only[yZ,ek]
  rw[hr] at vQ
  exact dj vQ k! fun x=>vq hz hn ha oa wl he FU po k (m+1) (i - 1) h1 alf hin (hc.trans c1) x1' _ x rfl
theorem pG {d:Nat} {h:ah} {z a:AV} {l:List Nat} {e:Nat} {p o n:Nat} {C:List AV} {f:TypeId} (hz:EL h z p o n C f) (hn:l.length≤n) (ha:ao env h .u64 54 a l) (oa:mj p a) (wl:Words l) (he:0<e) (FU:e<18446744073709551616) (hy:Tidy h) (po:0≤h.nx):
 ∃hk,aQ (d+4) (.fn 83) [z,a,.int .u64 (e:Int)] h= .ret (.int .u64 ((yZ l e l.length).2:Nat)) hk∧nj h hk p (.cells (setFrom C o (aA .u64 (yZ l e l.length).1)) f false)∧hk.nx=h.nx:=by
 have hs:=ha.small
 obtain ⟨h1,⟨y,ev⟩,c1,x1⟩:=vq (d:=d) (ds:=[]) (rc:= .no) hz hn ha oa wl he FU po l.length 0 ((l.length:Nat) - 1) h rfl rfl (nj.refl hy hz.get) rfl 0 (fun k=>((z::a::(ae e)::aB::aB::aB::(aa 0)::(aa 0)::(af (((l.length:Nat):Int) - 1))::a::(ag l.length)::(af (((l.length:Nat):Int) - 1))::aV 18):List AV).getD k aB) rfl
 exact dQ rfl (az Tryz.func83 Ld k! (.inr rfl) (IG hy o! c1.1 o! ha.len (wrap_i64 o! o!) ev) k!) c1 hy hz.get x1
noncomputable def fN:Code:=(Tryz.f93.body).getD .skip
theorem mI:Tryz.f93.body=some fN:=by kernel_rfl
noncomputable def fe:Code:=(aY fN).getD 0 .skip
theorem AG {call:aE} {h:ah} {ds:List cC} {rc:RC} {x2 x3 x4 x6 x7 x8 x9 x10 x11 x12 x13 x14 x15 x16 x17 x18 x19 x20 x21 x22 x23 x24 x25 x26 x27 x28 x29 x30 x31 x32 x33 x34 x35 x36 x37 x38 x39 x40:AV} {a b:AV} {i:Int} {p2 p3 p7 p8:Nat} {y5 gP:Int} (q1:(decide (0≤i))=true) (c4:bq env (some (.slice 54)) (some a) (some (af i))=some (AV.ptr p2 p3)) (c6:bk env h 54 (AV.ptr p2 p3)=some (aa y5)) (c9:bq env (some (.slice 54)) (some b) (some (af i))=some (AV.ptr p7 p8)) (IE:bk env h 54 (AV.ptr p7 p8)=some (aa gP)) (VZ:(!decide (y5=gP))=true) (W5:(decide (y5<gP))=true):
 Ev env call fe ⟨[a,b,x2,x3,x4,(af i),x6,x7,x8,x9,x10,x11,x12,x13,x14,x15,x16,x17,x18,x19,x20,x21,x22,x23,x24,x25,x26,x27,x28,x29,x30,x31,x32,x33,x34,x35,x36,x37,x38,x39,x40],h,ds,rc⟩ .ret ⟨[a,b,x2,x3,(af (-1)),(af i),x6,x7,x8,x9,x10,x11,x12,x13,x14,x15,x16,x17,x18,(af i),(aj (decide (0≤i))),x21,x22,a,(af i),(AV.ptr p2 p3),(aa y5),b,(af i),(AV.ptr p7 p8),(aa gP),(aj (!decide (y5=gP))),a,(af i),(AV.ptr p2 p3),(aa y5),b,(af i),(AV.ptr p7 p8),(aa gP),(aj (decide (y5<gP)))],h,ds,rc⟩:=
 aR (n:=200) (CC<|VV (bV 3 false true .i64 i 0)<|BB q1<|CN 2<|VV c4<|MM c6<|CN 2<|VV c9<|MM IE<|VV (jb 54 false false .u64 y5 gP)<|HH c6<|HH (show AV.same 20 (aa y5) (aa y5)=true from aP 19 _ _)<|HH IE<|HH (show AV.same 20 (aa gP) (aa gP)=true from aP 19 _ _)<|BB VZ<|CN 2<|VV c4<|MM c6<|CN 2<|VV c9<|MM IE<|VV (bh 54 false false .u64 y5 gP)<|HH c6<|HH (show AV.same 20 (aa y5) (aa y5)=true from aP 19 _ _)<|HH IE<|HH (show AV.same 20 (aa gP) (aa gP)=true from aP 19 _ _)<|BB W5<|CC<|ZZ) k!
theorem AH {call:aE} {h:ah} {ds:List cC} {rc:RC} {x2 x3 x4 x6 x7 x8 x9 x10 x11 x12 x13 x14 x15 x16 x17 x18 x19 x20 x21 x22 x23 x24 x25 x26 x27 x28 x29 x30 x31 x32 x33 x34 x35 x36 x37 x38 x39 x40:AV} {a b:AV} {i:Int} {p2 p3 p7 p8:Nat} {y5 gP:Int} (q1:(decide (0≤i))=true) (c4:bq env (some (.slice 54)) (some a) (some (af i))=some (AV.ptr p2 p3)) (c6:bk env h 54 (AV.ptr p2 p3)=some (aa y5)) (c9:bq env (some (.slice 54)) (some b) (some (af i))=some (AV.ptr p7 p8)) (IE:bk env h 54 (AV.ptr p7 p8)=some (aa gP)) (VZ:(!decide (y5=gP))=true) (W5:(decide (y5<gP))=false):
 Ev env call fe ⟨[a,b,x2,x3,x4,(af i),x6,x7,x8,x9,x10,x11,x12,x13,x14,x15,x16,x17,x18,x19,x20,x21,x22,x23,x24,x25,x26,x27,x28,x29,x30,x31,x32,x33,x34,x35,x36,x37,x38,x39,x40],h,ds,rc⟩ .ret ⟨[a,b,x2,x3,(af 1),(af i),x6,x7,x8,x9,x10,x11,x12,x13,x14,x15,x16,x17,x18,(af i),(aj (decide (0≤i))),x21,x22,a,(af i),(AV.ptr p2 p3),(aa y5),b,(af i),(AV.ptr p7 p8),(aa gP),(aj (!decide (y5=gP))),a,(af i),(AV.ptr p2 p3),(aa y5),b,(af i),(AV.ptr p7 p8),(aa gP),(aj (decide (y5<gP)))],h,ds,rc⟩:=
 aR (n:=200) (CC<|VV (bV 3 false true .i64 i 0)<|BB q1<|CN 2<|VV c4<|MM c6<|CN 2<|VV c9<|MM IE<|VV (jb 54 false false .u64 y5 gP)<|HH c6<|HH (show AV.same 20 (aa y5) (aa y5)=true from aP 19 _ _)<|HH IE<|HH (show AV.same 20 (aa gP) (aa gP)=true from aP 19 _ _)<|BB VZ<|CN 2<|VV c4<|MM c6<|CN 2<|VV c9<|MM IE<|VV (bh 54 false false .u64 y5 gP)<|HH c6<|HH (show AV.same 20 (aa y5) (aa y5)=true from aP 19 _ _)<|HH IE<|HH (show AV.same 20 (aa gP) (aa gP)=true from aP 19 _ _)<|BB W5<|CC<|ZZ) k!
theorem AI {call:aE} {h:ah} {ds:List cC} {rc:RC} {x2 x3 x4 x6 x7 x8 x9 x10 x11 x12 x13 x14 x15 x16 x17 x18 x19 x20 x21 x22 x23 x24 x25 x26 x27 x28 x29 x30 x31 x32 x33 x34 x35 x36 x37 x38 x39 x40:AV} {a b:AV} {i:Int} {p2 p3 p7 p8:Nat} {y5 gP:Int} (q1:(decide (0≤i))=true) (c4:bq env (some (.slice 54)) (some a) (some (af i))=some (AV.ptr p2 p3)) (c6:bk env h 54 (AV.ptr p2 p3)=some (aa y5)) (c9:bq env (some (.slice 54)) (some b) (some (af i))=some (AV.ptr p7 p8)) (IE:bk env h 54 (AV.ptr p7 p8)=some (aa gP)) (VZ:(!decide (y5=gP))=false) (w13:IntKind.i64.wrap (i - 1)=i - 1):
 Ev env call fe ⟨[a,b,x2,x3,x4,(af i),x6,x7,x8,x9,x10,x11,x12,x13,x14,x15,x16,x17,x18,x19,x20,x21,x22,x23,x24,x25,x26,x27,x28,x29,x30,x31,x32,x33,x34,x35,x36,x37,x38,x39,x40],h,ds,rc⟩ .normal ⟨[a,b,x2,x3,x4,(af (i - 1)),x6,x7,x8,x9,x10,x11,x12,x13,x14,x15,x16,x17,x18,(af i),(aj (decide (0≤i))),(af i),(af (i - 1)),a,(af i),(AV.ptr p2 p3),(aa y5),b,(af i),(AV.ptr p7 p8),(aa gP),(aj (!decide (y5=gP))),x32,x33,x34,x35,x36,x37,x38,x39,x40],h,ds,rc⟩:=
 aR (n:=200) (CC<|VV (bV 3 false true .i64 i 0)<|BB q1<|CN 2<|VV c4<|MM c6<|CN 2<|VV c9<|MM IE<|VV (jb 54 false false .u64 y5 gP)<|HH c6<|HH (show AV.same 20 (aa y5) (aa y5)=true from aP 19 _ _)<|HH IE<|HH (show AV.same 20 (aa gP) (aa gP)=true from aP 19 _ _)<|BB VZ<|CC<|VV (bT 3 false true w13)<|CC<|ZZ) k!
theorem AJ {call:aE} {h:ah} {ds:List cC} {rc:RC} {x2 x3 x4 x6 x7 x8 x9 x10 x11 x12 x13 x14 x15 x16 x17 x18 x19 x20 x21 x22 x23 x24 x25 x26 x27 x28 x29 x30 x31 x32 x33 x34 x35 x36 x37 x38 x39 x40:AV} {a b:AV} {i:Int} (q1:(decide (0≤i))=false):
 Ev env call fe ⟨[a,b,x2,x3,x4,(af i),x6,x7,x8,x9,x10,x11,x12,x13,x14,x15,x16,x17,x18,x19,x20,x21,x22,x23,x24,x25,x26,x27,x28,x29,x30,x31,x32,x33,x34,x35,x36,x37,x38,x39,x40],h,ds,rc⟩ (.exit 0) ⟨[a,b,x2,x3,x4,(af i),x6,x7,x8,x9,x10,x11,x12,x13,x14,x15,x16,x17,x18,(af i),(aj (decide (0≤i))),x21,x22,x23,x24,x25,x26,x27,x28,x29,x30,x31,x32,x33,x34,x35,x36,x37,x38,x39,x40],h,ds,rc⟩:=
 aR (n:=200) (CC<|VV (bV 3 false true .i64 i 0)<|BB q1<|ZZ) k!
theorem EW {call:aE} {h:ah} {a b:AV} {n1 n3:Int} (c2:dO (some (.slice 54)) (some a)=some (af n1)) (c4:dO (some (.slice 54)) (some b)=some (af n3)) (q5:(!decide (n1=n3))=true) (q6:(decide (n1<n3))=true):
 Ev env call fN ⟨(a::b::aV 39),h,[],.no⟩ .ret ⟨(a::b::aB::aB::(af (-1))::aB::a::(af n1)::b::(af n3)::(aj (!decide (n1=n3)))::a::(af n1)::b::(af n3)::(aj (decide (n1<n3)))::aV 25),h,[],.no⟩:=
 aR (n:=200) (CN 2<|VV c2<|CC<|VV c4<|VV (jb 3 false false .i64 n1 n3)<|BB q5<|CC<|VV c2<|CC<|VV c4<|VV (bh 3 false false .i64 n1 n3)<|BB q6<|CC<|ZZ) k!
theorem EX {call:aE} {h:ah} {a b:AV} {n1 n3:Int} (c2:dO (some (.slice 54)) (some a)=some (af n1)) (c4:dO (some (.slice 54)) (some b)=some (af n3)) (q5:(!decide (n1=n3))=true) (q6:(decide (n1<n3))=false):
 Ev env call fN ⟨(a::b::aV 39),h,[],.no⟩ .ret ⟨(a::b::aB::aB::(af 1)::aB::a::(af n1)::b::(af n3)::(aj (!decide (n1=n3)))::a::(af n1)::b::(af n3)::(aj (decide (n1<n3)))::aV 25),h,[],.no⟩:=
 aR (n:=200) (CN 2<|VV c2<|CC<|VV c4<|VV (jb 3 false false .i64 n1 n3)<|BB q5<|CC<|VV c2<|CC<|VV c4<|VV (bh 3 false false .i64 n1 n3)<|BB q6<|CC<|ZZ) k!
theorem EY {call:aE} {h:ah} {a b:AV} {n1 n3:Int} {Zw Zx Zy Zz acU ZA ZB ZC ZD ZE Oq Ot Ou Ov Ow Ox Oy Oz OA OB OC OD OE OF OG OH OI OJ OL OM ON OO OP OQ OS OT OU OV OW OX OY:AV} (c2:dO (some (.slice 54)) (some a)=some (af n1)) (c4:dO (some (.slice 54)) (some b)=some (af n3)) (q5:(!decide (n1=n3))=false) (w6:IntKind.i64.wrap (n1 - 1)=n1 - 1) (e8:Ev env call (.loop fe) ⟨(a::b::aB::aB::(af 0)::(af (n1 - 1))::a::(af n1)::b::(af n3)::(aj (!decide (n1=n3)))::aB::aB::aB::aB::aB::a::(af n1)::(af (n1 - 1))::aV 22),h,[],.no⟩ .ret ⟨[Zw,Zx,Zy,Zz,acU,ZA,ZB,ZC,ZD,ZE,Oq,Ot,Ou,Ov,Ow,Ox,Oy,Oz,OA,OB,OC,OD,OE,OF,OG,OH,OI,OJ,OL,OM,ON,OO,OP,OQ,OS,OT,OU,OV,OW,OX,OY],h,[],.no⟩):
 Ev env call fN ⟨(a::b::aV 39),h,[],.no⟩ .ret ⟨[Zw,Zx,Zy,Zz,acU,ZA,ZB,ZC,ZD,ZE,Oq,Ot,Ou,Ov,Ow,Ox,Oy,Oz,OA,OB,OC,OD,OE,OF,OG,OH,OI,OJ,OL,OM,ON,OO,OP,OQ,OS,OT,OU,OV,OW,OX,OY],h,[],.no⟩:=
 aR (n:=200) (CN 2<|VV c2<|CC<|VV c4<|VV (jb 3 false false .i64 n1 n3)<|BB q5<|CC<|VV c2<|VV (bT 3 false true w6)<|CC<|LL e8<|ZZ) k!
theorem EZ {call:aE} {h:ah} {a b:AV} {n1 n3:Int} {Zw Zx Zy Zz acU ZA ZB ZC ZD ZE Oq Ot Ou Ov Ow Ox Oy Oz OA OB OC OD OE OF OG OH OI OJ OL OM ON OO OP OQ OS OT OU OV OW OX OY:AV} (c2:dO (some (.slice 54)) (some a)=some (af n1)) (c4:dO (some (.slice 54)) (some b)=some (af n3)) (q5:(!decide (n1=n3))=false) (w6:IntKind.i64.wrap (n1 - 1)=n1 - 1) (e8:Ev env call (.loop fe) ⟨(a::b::aB::aB::(af 0)::(af (n1 - 1))::a::(af n1)::b::(af n3)::(aj (!decide (n1=n3)))::aB::aB::aB::aB::aB::a::(af n1)::(af (n1 - 1))::aV 22),h,[],.no⟩ (.exit 0) ⟨[Zw,Zx,Zy,Zz,acU,ZA,ZB,ZC,ZD,ZE,Oq,Ot,Ou,Ov,Ow,Ox,Oy,Oz,OA,OB,OC,OD,OE,OF,OG,OH,OI,OJ,OL,OM,ON,OO,OP,OQ,OS,OT,OU,OV,OW,OX,OY],h,[],.no⟩):
 Ev env call fN ⟨(a::b::aV 39),h,[],.no⟩ .ret ⟨[Zw,Zx,Zy,Zz,(af 0),ZA,ZB,ZC,ZD,ZE,Oq,Ot,Ou,Ov,Ow,Ox,Oy,Oz,OA,OB,OC,OD,OE,OF,OG,OH,OI,OJ,OL,OM,ON,OO,OP,OQ,OS,OT,OU,OV,OW,OX,OY],h,[],.no⟩:=
 aR (n:=200) (CN 2<|VV c2<|CC<|VV c4<|VV (jb 3 false false .i64 n1 n3)<|BB q5<|CC<|VV c2<|VV (bT 3 false true w6)<|CC<|LL e8<|CC<|ZZ) k!
def mJ (l m:List Nat):Nat→Int
 | 0=>0
 | k+1=>if l.getD k 0=m.getD k 0 then mJ l m k else if l.getD k 0<m.getD k 0 then -1 else 1
def tH (l m:List Nat):Int:=if l.length=m.length then mJ l m l.length else if l.length<m.length then -1 else 1
theorem si {call:aE} {h:ah} {ds:List cC} {rc:RC} {a b:AV} {l m:List Nat} (ha:ao env h .u64 54 a l) (hb:ao env h .u64 54 b m) (he:l.length=m.length):
 ∀(k:Nat),k≤l.length→∀(x2 x3 x4 x6 x7 x8 x9 x10 x11 x12 x13 x14 x15 x16 x17 x18 x19 x20 x21 x22 x23 x24 x25 x26 x27 x28 x29 x30 x31 x32 x33 x34 x35 x36 x37 x38 x39 x40:AV),∃e y0 y1 y2 y3 y4 y5 y6 y7 y8 y9 gP vP sR By pO zM uk ET sP sQ EU KT KU KV KW KX KY KZ K0 K1 K2 TM TN TO TP TQ TR TS TU TV TW,Ev env call (.loop fe) ⟨[a,b,x2,x3,x4,(af ((k:Nat) - 1)),x6,x7,x8,x9,x10,x11,x12,x13,x14,x15,x16,x17,x18,x19,x20,x21,x22,x23,x24,x25,x26,x27,x28,x29,x30,x31,x32,x33,x34,x35,x36,x37,x38,x39,x40],h,ds,rc⟩ e ⟨[y0,y1,y2,y3,y4,y5,y6,y7,y8,y9,gP,vP,sR,By,pO,zM,uk,ET,sP,sQ,EU,KT,KU,KV,KW,KX,KY,KZ,K0,K1,K2,TM,TN,TO,TP,TQ,TR,TS,TU,TV,TW],h,ds,rc⟩∧
  ((e= .ret∧y4= .int .i64 (mJ l m k))∨(e= .exit 0∧mJ l m k=0))
 | 0,hk,x2,x3,x4,x6,x7,x8,x9,x10,x11,x12,x13,x14,x15,x16,x17,x18,x19,x20,x21,x22,x23,x24,x25,x26,x27,x28,x29,x30,x31,x32,x33,x34,x35,x36,x37,x38,x39,x40=>⟨_,_,_,_,_,_,_,_,_,_,_,_,_,_,_,_,_,_,_,_,_,_,_,_,_,_,_,_,_,_,_,_,_,_,_,_,_,_,_,_,_,_,Ev.out (AJ (dF o!)),.inr ⟨rfl,rfl⟩⟩
 | k+1,hk,x2,x3,x4,x6,x7,x8,x9,x10,x11,x12,x13,x14,x15,x16,x17,x18,x19,x20,x21,x22,x23,x24,x25,x26,x27,x28,x29,x30,x31,x32,x33,x34,x35,x36,x37,x38,x39,x40=>by
  have g1:l[k]? =some (l.getD k 0):=fK o!
  have g2:m[k]? =some (m.getD k 0):=fK o!
  obtain ⟨p1,q1,i1,l1⟩:=ha.elem g1
  obtain ⟨p2,q2,i2,l2⟩:=hb.elem g2
  have ek:((k+1:Nat):Int) - 1=(k:Nat):=by omega
  rw[ek]
  have hs:=ha.1.small
  by_cases hq:l.getD k 0=m.getD k 0
  · obtain ⟨e,y0,y1,y2,y3,y4,y5,y6,y7,y8,y9,gP,vP,sR,By,pO,zM,uk,ET,sP,sQ,EU,KT,KU,KV,KW,KX,KY,KZ,K0,K1,K2,TM,TN,TO,TP,TQ,TR,TS,TU,TV,TW,ev,hp⟩:=si ha hb he k o! _ _ _ _ _ _ _ _ _ _ _ _ _ _ _ _ _ _ _ _ _ _ _ _ _ _ _ _ _ _ _ _ _ _ _ _ _ _
    refine ⟨e,y0,y1,y2,y3,y4,y5,y6,y7,y8,y9,gP,vP,sR,By,pO,zM,uk,ET,sP,sQ,EU,KT,KU,KV,KW,KX,KY,KZ,K0,K1,K2,TM,TN,TO,TP,TQ,TR,TS,TU,TV,TW,Ev.loop (AI (dT o!) i1 l1 i2 l2 (nF o!) (wrap_i64 o! o!)) ev,?_⟩
    simp only[mJ,hq,if_true];exact hp
  · by_cases gL:l.getD k 0<m.getD k 0
    · exact ⟨_,_,_,_,_,_,_,_,_,_,_,_,_,_,_,_,_,_,_,_,_,_,_,_,_,_,_,_,_,_,_,_,_,_,_,_,_,_,_,_,_,_,Ev.ret (AG (dT o!) i1 l1 i2 l2 (nT o!) (dT o!)),.inl ⟨rfl,by simp only[mJ,hq,gL,if_true,if_false]⟩⟩
    · exact ⟨_,_,_,_,_,_,_,_,_,_,_,_,_,_,_,_,_,_,_,_,_,_,_,_,_,_,_,_,_,_,_,_,_,_,_,_,_,_,_,_,_,_,Ev.ret (AH (dT o!) i1 l1 i2 l2 (nT o!) (dF o!)),.inl ⟨rfl,by simp only[mJ,hq,gL,if_false]⟩⟩
theorem BU {call:aE} {h:ah} {a b:AV} {l m:List Nat} (ha:ao env h .u64 54 a l) (hb:ao env h .u64 54 b m):mz env call 93 [a,b] h (.int .i64 (tH l m)) h:=by
 have hs:=ha.1.small
 have Rr:=hb.1.small
 by_cases he:l.length=m.length
 · obtain ⟨e,y0,y1,y2,y3,y4,y5,y6,y7,y8,y9,gP,vP,sR,By,pO,zM,uk,ET,sP,sQ,EU,KT,KU,KV,KW,KX,KY,KZ,K0,K1,K2,TM,TN,TO,TP,TQ,TR,TS,TU,TV,TW,ev,hp⟩:=si (call:=call) (ds:=[]) (rc:= .no) ha hb he l.length (Nat.le_refl _) _ _ _ _ _ _ _ _ _ _ _ _ _ _ _ _ _ _ _ _ _ _ _ _ _ _ _ _ _ _ _ _ _ _ _ _ _ _
   have q5:=TJ (((l.length:Nat):Int)=(m.length:Nat))
   rcases hp with ⟨rfl,rfl⟩ | ⟨rfl,h0⟩
   · rw[tH,if_pos he];exact az Tryz.func93 mI k! (.inr rfl) (EY ha.len hb.len q5 (wrap_i64 o! o!) ev) k!
   · rw[tH,if_pos he,h0];exact az Tryz.func93 mI k! (.inr rfl) (EZ ha.len hb.len q5 (wrap_i64 o! o!) ev) k!
 · by_cases gL:l.length<m.length
   · rw[tH,if_neg he,if_pos gL];exact az Tryz.func93 mI k! (.inr rfl) (EW ha.len hb.len (nT o!) (dT o!)) k!
   · rw[tH,if_neg he,if_neg gL];exact az Tryz.func93 mI k! (.inr rfl) (EX ha.len hb.len (nT o!) (dF o!)) k!
theorem fC {d:Nat} {h:ah} {a b:AV} {l m:List Nat} (ha:ao env h .u64 54 a l) (hb:ao env h .u64 54 b m):aQ (d+1) (.fn 93) [a,b] h= .ret (.int .i64 (tH l m)) h:=
 ai rfl (BU ha hb) (Has.refl h) rfl
theorem sj {k:IntKind} {R l:List Nat} (hl:l.length≤R.length):setFrom (aA k R) 0 (aA k l)=aA k (l++R.drop l.length):=by
 have:=mC (k:=k) (o:=0) (R:=R) (l:=l) o!
 simpa using this
theorem Dm {x:List Nat} {s:Nat} (wx:Words x) (hs:s<64):∀k,Words (BI x s k).1
 | 0=>Words.nil
 | k+1=>by
  refine (Dm wx hs k).append (Words.one ?_)
  have h1:=K9 wx hs k
  have hB:(18446744073709551616:Nat)=2^(64 - s)*2^s:=by rw[←Nat.pow_add,Nat.sub_add_cancel o!]
  have h2:x.getD k 0*2^s%18446744073709551616=(x.getD k 0%2^(64 - s))*2^s:=by rw[hB,Nat.mul_mod_mul_right]
  have h3:x.getD k 0%2^(64 - s)+1≤2^(64 - s):=Nat.mod_lt _ (Nat.pow_pos (by decide))
  have h4:=Nat.mul_le_mul_right (2^s) h3
  rw[←hB,Nat.succ_mul] at h4
  omega
theorem Ud {x:List Nat} {s:Nat} (hs:s<64):∀k,k≤x.length→ay (BI x s k).1+18446744073709551616^k*(BI x s k).2=ay (x.take k)*2^s
 | 0,_=>by simp [BI,ay]
 | k+1,hk=>by
  have ih:=Ud (x:=x) hs k o!
  have hB:(18446744073709551616:Nat)=2^(64 - s)*2^s:=by rw[←Nat.pow_add,Nat.sub_add_cancel o!]
  rw[cM o!]
  simp only[BI]
  rw[jR,pE,Nat.add_mul,Nat.pow_succ,Nat.mul_add,←ih,Nat.mul_assoc,Nat.mul_assoc]
  have e:x.getD k 0*2^s%18446744073709551616+18446744073709551616*(x.getD k 0/2^(64 - s))=x.getD k 0*2^s:=by
   have h1:x.getD k 0*2^s/18446744073709551616=x.getD k 0/2^(64 - s):=by
    rw[hB,Nat.mul_div_mul_right _ _ (Nat.pow_pos (by decide))]
   rw[←h1];exact Nat.mod_add_div _ _
  have EM:=congrArg (18446744073709551616^k* ·) e
  simp only[Nat.mul_add] at EM
  omega
theorem Ej {x:List Nat} {s:Nat} (hs:s<64):ay (BI x s x.length).1+18446744073709551616^x.length*(BI x s x.length).2=ay x*2^s:=by
 have:=Ud (x:=x) hs x.length (Nat.le_refl _)
 rwa [List.take_length] at this
theorem Le {l:List Nat} {e:Nat}:∀m,(yZ l e m).1.length=m
 | 0=>rfl
 | m+1=>by simp [yZ,Le m]
theorem Dn {l:List Nat} {e:Nat} (wl:Words l) (he:0<e) (FU:e<18446744073709551616):∀m,Words (yZ l e m).1
 | 0=>Words.nil
 | m+1=>fun w hw=>by
  have hr:=GU (l:=l) he m
  simp only[yZ] at hw
  rcases List.mem_cons.1 hw with rfl | hw
  · rw[Nat.div_lt_iff_lt_mul he]
    have:=wl.getD (l.length -(m+1))
    have h2:(yZ l e m).2*18446744073709551616+18446744073709551616≤e*18446744073709551616:=by rw[←Nat.succ_mul];exact Nat.mul_le_mul_right _ hr
    rw[Nat.mul_comm]
    omega
  · exact Dn wl he FU m w hw
theorem Ue {l:List Nat} {e:Nat}:∀m,m≤l.length→ay (yZ l e m).1*e+(yZ l e m).2=ay (l.drop (l.length - m))
 | 0,_=>by simp [yZ,ay]
 | m+1,hm=>by
  have ih:=Ue (l:=l) (e:=e) m o!
  rw[drop_cons (l:=l) (j:=l.length -(m+1)) o!,show l.length -(m+1)+1=l.length - m by omega,ay,←ih]
  simp only[yZ,ay]
  have h:=Nat.div_add_mod ((yZ l e m).2*18446744073709551616+l.getD (l.length -(m+1)) 0) e
  rw[Nat.add_mul,Nat.mul_comm _ e,Nat.mul_add,Nat.mul_assoc]
  omega
theorem Fl {l:List Nat} {e:Nat} (he:0<e):ay (yZ l e l.length).1=ay l/e∧(yZ l e l.length).2=ay l%e:=by
 have h:=Ue (l:=l) (e:=e) l.length (Nat.le_refl _)
 have hr:=GU (l:=l) he l.length
 rw[Nat.sub_self,List.drop_zero] at h
 rw[←h]
 constructor
 · rw[Nat.mul_comm,Nat.mul_add_div he,Nat.div_eq_of_lt hr,Nat.add_zero]
 · rw[Nat.mul_comm,Nat.mul_add_mod,Nat.mod_eq_of_lt hr]
theorem GV {l m:List Nat} (wl:Words l) (wm:Words m):∀k,k≤l.length→k≤m.length→mJ l m k=if ay (l.take k)<ay (m.take k) then -1 else if ay (l.take k)=ay (m.take k) then 0 else 1
 | 0,_,_=>by simp [mJ,ay]
 | k+1,hl,hm=>by
  have ih:=GV wl wm k o! o!
  have h1:=fu wl k o!
  have h2:=fu wm k o!
  rw[cM o!,cM o!]
  simp only[mJ]
  generalize ay (l.take k)=A at *
  generalize ay (m.take k)=C at *
  generalize l.getD k 0=a
  generalize m.getD k 0=c
  generalize 18446744073709551616^k=M at *
  by_cases q:a=c
  · subst q
    rw[if_pos rfl,ih]
    simp only[Nat.add_lt_add_iff_right,Nat.add_right_cancel_iff]
  · rw[if_neg q]
    by_cases q1:a<c
    · have:=Nat.mul_le_mul_left M (show a+1≤c from q1)
      rw[Nat.mul_add,Nat.mul_one] at this
      rw[if_pos q1,if_pos o!]
    · have:=Nat.mul_le_mul_left M (show c+1≤a by omega)
      rw[Nat.mul_add,Nat.mul_one] at this
      rw[if_neg q1,if_neg o!,if_neg o!]
theorem BV {a b:Nat} (h:a≤b):18446744073709551616^a≤18446744073709551616^b:=Nat.pow_le_pow_right (by decide) h
theorem AK {a b:Nat} (h:(aq a).length<(aq b).length):a<b:=by
 apply Decidable.byContradiction
 intro hn
 have:(aq b).length≤(aq a).length:=gZ (Nat.lt_of_le_of_lt (Nat.not_lt.1 hn) (by have:=kN (bH a);rwa [cd] at this))
 omega
theorem bG {a b:Nat} (h:a≤b):(aq a).length≤(aq b).length:=by
 apply Decidable.byContradiction
 intro hn
 have:=AK (a:=b) (b:=a) o!
 omega
theorem tI (a b:Nat):tH (aq a) (aq b)=if a<b then -1 else if a=b then 0 else 1:=by
 unfold tH
 by_cases q:(aq a).length=(aq b).length
 · rw[if_pos q,GV (bH a) (bH b) _ (Nat.le_refl _) o!]
   rw[List.take_length,q,List.take_length,cd,cd]
 · rw[if_neg q]
   by_cases q1:(aq a).length<(aq b).length
   · rw[if_pos q1,if_pos (AK q1)]
   · have:=AK (a:=b) (b:=a) o!
     rw[if_neg q1,if_neg o!,if_neg o!]
theorem GW {n:Nat} (h:n≠0):(aq n).getD ((aq n).length - 1) 0≠0:=by
 have h1:bR (aq n)=aq n:=Y9 n
 have h2:(aq n)≠ []:=fun e=>h (dZ.1 e)
 have h3:fk (aq n) (aq n).length=(aq n).length:=by
  have:=congrArg List.length h1
  simp only[bR,List.length_take] at this
  have:=qu (aq n) (aq n).length
  omega
 rcases uM (aq n) (aq n).length (Nat.le_refl _) with h4 | h4
 · rw[h3] at h4;exact absurd (List.length_eq_zero_iff.1 h4) h2
 · rw[h3] at h4;exact h4
theorem GX {n:Nat} (h:n≠0):18446744073709551616^((aq n).length - 1)≤n:=by
 have h2:0<(aq n).length:=List.length_pos_iff.2 fun e=>h (dZ.1 e)
 have h1:=GW h
 have e:=cM (l:=aq n) (k:=(aq n).length - 1) o!
 rw[show (aq n).length - 1+1=(aq n).length by omega,List.take_length,cd] at e
 have:18446744073709551616^((aq n).length - 1)*1≤18446744073709551616^((aq n).length - 1)*(aq n).getD ((aq n).length - 1) 0:=Nat.mul_le_mul_left _ o!
 omega
theorem nJ (n:Nat):n<18446744073709551616^(aq n).length:=by
 have:=kN (bH n);rwa [cd] at this
end Go.Proofs.aF
