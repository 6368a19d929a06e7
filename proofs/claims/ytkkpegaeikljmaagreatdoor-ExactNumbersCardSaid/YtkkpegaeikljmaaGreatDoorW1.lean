import Derived.Test.YtkkpegaeikljmaaGreatDoorA6
import Derived.Test.YtkkpegaeikljmaaGreatDoorW0
import Derived.Test.YtkkpegaeikljmaaGreatDoorEnv
namespace Go.Proofs.aF
open Go.Proofs Ab
set_option maxRecDepth 100000
set_option maxHeartbeats 4000000
set_option linter.unusedVariables false
set_option linter.unusedSimpArgs false
noncomputable def GA:Code:=(Tryz.f19.body).getD .skip
theorem acN:Tryz.f19.body=some GA:=by kernel_rfl
theorem qw {h:ah} {b k c:Nat} {v:Int} {f:TypeId} {ro op:Bool} (hg:h.get b=some (.cells [.int .u64 v] f ro)) (hv:v=(k:Nat)):ao env h .u64 54 (.slice b 0 1 (c+1) op) [k]:=
 ao.of (l:=[k]) k! k! (by simp) (by simp) (fun _=>Nat.succ_pos _) hg fun i z hz=>by
  subst hv
  match i with
  | 0=>simp at hz;subst hz;rfl
  | i+1=>simp at hz
theorem acO {d:Nat} {h:ah} {k:Nat} (hk:k<9223372036854775808) (aw:Tidy h):
 ∃cs hk,aQ (d+4) (.fn 19) [.int .i64 (k:Nat)] h= .ret (.agg cs) hk∧Grow h hk∧gY h hk cs false (bR [k]):=by
 have cv:IntKind.u64.wrap (k:Int)=(k:Int):=qn _ o! o!
 obtain ⟨h1,aO,aK,bm,aC,ck⟩:=de aw (ar.cells (au false 0 0 0 0 bE 0) 60 false)
 have aD:Has h h1:=ck
 have q2:=cI ((k:Int)<0)
 obtain ⟨h3,gn,bt,ky,eb,bC⟩:=de aK (ar.cells [(aa (IntKind.u64.wrap (k:Int)))] 54 false)
 have aX:=aD.trans bC
 obtain ⟨cs,h4,RW,Dc,zv⟩:=Jq (d:=d) (b:=false) (qw (c:=0) eb cv) bt (by simp)
 have gk:=Dc.y
 have VL:=Dc.n
 obtain ⟨w0,w1,w2,w3,far,rfl,sc,hc,hf⟩:=id zv
 have iy:=aX.trans Dc.a
 have sc6:AV.scalar far=true:=sc
 obtain ⟨h5,pz,fA,wM,lu,iO⟩:=b9 (t:=60) (n:=7) (i:=h.nx) (L:=(bz false w0 w1 w2 w3 far ((bR [k]).length))) gk (Dc.a _ _ (bC _ _ aC)) k! rfl rfl z!
 have ep:=Has.ak iy iO aw o!
 have ev:=pk (d+3) GA ((ag k)::aV 13) h .ret h5 (NN aO (fun i=>(AV.ptr i 0))<|CC<|VV (bh 3 false true .i64 (k:Int) 0)<|BB q2<|CN 2<|NN gn (fun i=>(AV.slice i 0 1 1 false))<|EE (show (aQ (d+3)) (.fn 46) [(aj false),(AV.slice h1.nx 0 1 1 false)] h3= .ret (AV.agg (bz false w0 w1 w2 w3 far ((bR [k]).length))) h4 from RW)<|SS pz<|ZZ) k!
 have GB:=(zv.kept iO o! o!)
 exact ⟨_,aU rfl (bn (a:=2) (t:=60) Tryz.func19 acN k! (.inr rfl) ev k! (aN lu k!)) aw ⟨fA,ep,by omega⟩ (P:=fun hh=>gY h hh _ _ _) (GB.mono o!) fun v=>GB.fit o! v⟩
noncomputable def iB:Code:=(Tryz.f45.body).getD .skip
theorem r_:Tryz.f45.body=some iB:=by kernel_rfl
noncomputable def kD:Code:=(aY iB).getD 0 .skip
def pB (l:List Nat) (m a:Nat):Nat→List Nat×Nat
 | 0=>([],a)
 | k+1=>((pB l m a k).1++[(l.getD k 0*m+(pB l m a k).2)%18446744073709551616],(l.getD k 0*m+(pB l m a k).2) /18446744073709551616)
theorem sa (l:List Nat) (m a:Nat):∀k,(pB l m a k).1.length=k
 | 0=>rfl
 | k+1=>by simp [pB,sa l m a k]
theorem yr {l:List Nat} {m a:Nat} (wl:Words l) (hm:m<18446744073709551616) (ha:a<18446744073709551616):∀k,(pB l m a k).2<18446744073709551616
 | 0=>ha
 | k+1=>by
  have h0:=yr wl hm ha k
  have h1:=wK (wl.getD k) hm
  simp only[pB]
  generalize l.getD k 0*m=P at *
  omega
def W2 (l:List Nat) (m a:Nat):List Nat:=(pB l m a l.length).1++(if (pB l m a l.length).2=0 then [] else [(pB l m a l.length).2])
theorem K5 {A l:List Nat} {j v:Nat} (hA:A.length=j) (hj:j<l.length):(A++l.drop j).set j v=A++[v]++l.drop (j+1):=by
 subst hA
 rw[List.set_append_right _ _ (Nat.le_refl _),Nat.sub_self,List.drop_eq_getElem_cons hj,List.set_cons_zero,List.append_assoc]
 rfl
theorem N4 {A l:List Nat} {j:Nat} (hA:A.length=j):(A++l.drop j).getD j 0=l.getD j 0:=by
 subst hA
 simp [List.getD_eq_getElem?_getD,List.getElem?_append_right]
theorem qz {d:Nat} {hs:ah} {ds:List cC} {rc:RC} {l:List Nat} {m a p:Nat} {op:Bool} (wl:Words l) (hm:m<18446744073709551616) (ha:a<18446744073709551616) (gD:l.length<2^30):
 ∀(k j:Nat) (h:ah) (D:List Nat) (ca:Nat),j+k=l.length→D=(pB l m a j).1++l.drop j→ca=(pB l m a j).2→Tidy h→Kept p hs h→h.nx=hs.nx→h.get p=some (.cells (aA .u64 D) 54 false)→∀x:Nat→AV,
  ∃h',(∃y:Nat→AV,Ev env (aQ (d+1)) (.loop kD) ⟨((AV.slice p 0 l.length l.length op)::(ae m)::rx x 2 5 ((ae ca)::rx x 8 6 ((AV.slice p 0 l.length l.length op)::(ag l.length)::(ag j)::rx x 17 31 []))),h,ds,rc⟩ (.exit 0) ⟨((AV.slice p 0 l.length l.length op)::rx y 1 6 ((ae ((pB l m a l.length).2))::rx y 8 40 [])),h',ds,rc⟩)∧(Tidy h'∧Kept p hs h'∧h'.nx=hs.nx∧h'.get p=some (.cells (aA .u64 (pB l m a l.length).1) 54 false))
 | 0,j,h,D,ca,hk,hD,CI,aw,kp,hx,hg,x=>by
  have hj:j=l.length:=by omega
  have q1:=cI ((j:Int)<((l.length:Nat):Int))
  have ev:Ev env (aQ (d+1)) kD ⟨((AV.slice p 0 l.length l.length op)::(ae m)::rx x 2 5 ((ae ca)::rx x 8 6 ((AV.slice p 0 l.length l.length op)::(ag l.length)::(ag j)::rx x 17 31 []))),h,ds,rc⟩ (.exit 0) ⟨((AV.slice p 0 l.length l.length op)::(ae m)::rx x 2 5 ((ae ca)::rx x 8 6 ((AV.slice p 0 l.length l.length op)::(ag l.length)::(ag j)::(aj (decide ((j:Int)<((l.length:Nat):Int))))::rx x 18 30 []))),h,ds,rc⟩:=aR (n:=300) (VV (bh 3 false false .i64 (j:Int) ((l.length:Nat):Int))<|BB q1<|ZZ) k!
  subst CI hj
  rw[List.drop_length,List.append_nil] at hD
  subst hD
  exact ⟨h,cT (Ev.out ev) k!,aw,kp,hx,hg⟩
 | k+1,j,h,D,ca,hk,hD,CI,aw,kp,hx,hg,x=>by
  have hj:j<l.length:=by omega
  have GC:D.length=l.length:=by rw[hD];simp [sa];omega
  have Qm:D.getD j 0=l.getD j 0:=by rw[hD];exact N4 (sa l m a j)
  have b1:D.getD j 0<18446744073709551616:=by rw[Qm];exact wl.getD j
  have b2:=wK b1 hm
  have b3:ca<18446744073709551616:=by rw[CI];exact yr wl hm ha j
  have q1:=dg ((j:Int)<((l.length:Nat):Int))
  have ix2:bq env (some (.slice 54)) (some (AV.slice p 0 l.length l.length op)) (some (ag j))=some (AV.ptr p j):=cN k! (show j<l.length by omega) o!
  have ld3:bk env h 54 (AV.ptr p j)=some (ae (D.getD j 0)):=tj k! hg (show j<D.length by omega)
  have mu4:=r8 (d:=d) (h:=h) (D.getD j 0) m o! o!
  have e5:jk [(ae ((D.getD j 0)*m%18446744073709551616)),(ae ca),(aa 0)]=some (AV.tuple [(ae ((((D.getD j 0)*m%18446744073709551616)+ca+0)%18446744073709551616)),(ae ((((D.getD j 0)*m%18446744073709551616)+ca+0) /18446744073709551616))]):=fL ((D.getD j 0)*m%18446744073709551616) ca 0 o!
  have u6:=C5 54 false false ((D.getD j 0)*m/18446744073709551616) ((((D.getD j 0)*m%18446744073709551616)+ca+0) /18446744073709551616)
  have N5:bq env (some (.slice 54)) (some (AV.slice p 0 l.length l.length op)) (some (ag j))=some (AV.ptr p j):=cN k! (show j<l.length by omega) o!
  obtain ⟨h8,sW,Y6,eQ,BE⟩:=Iz 54 j ((((D.getD j 0)*m%18446744073709551616)+ca+0)%18446744073709551616) aw hg (show j<D.length by omega)
  have jl:Kept p h h8:=Y6.2.2
  have w9:=fS ((j:Int)+1)
  have ev:Ev env (aQ (d+1)) kD ⟨((AV.slice p 0 l.length l.length op)::(ae m)::rx x 2 5 ((ae ca)::rx x 8 6 ((AV.slice p 0 l.length l.length op)::(ag l.length)::(ag j)::rx x 17 31 []))),h,ds,rc⟩ .normal ⟨((AV.slice p 0 l.length l.length op)::(ae m)::rx x 2 5 ((ae ((((D.getD j 0)*m/18446744073709551616)+((((D.getD j 0)*m%18446744073709551616)+ca+0) /18446744073709551616))%18446744073709551616))::(ag j)::(ae (D.getD j 0))::(ae ((D.getD j 0)*m/18446744073709551616))::(ae ((((D.getD j 0)*m%18446744073709551616)+ca+0)%18446744073709551616))::(ae ((((D.getD j 0)*m%18446744073709551616)+ca+0) /18446744073709551616))::(x 13)::(AV.slice p 0 l.length l.length op)::(ag l.length)::(af ((j:Int)+1))::(aj (decide ((j:Int)<((l.length:Nat):Int))))::(ag j)::(AV.ptr p j)::(ae (D.getD j 0))::(AV.tuple [(ae ((D.getD j 0)*m/18446744073709551616)),(ae ((D.getD j 0)*m%18446744073709551616))])::(ae (D.getD j 0))::(ae m)::(AV.tuple [(ae ((D.getD j 0)*m/18446744073709551616)),(ae ((D.getD j 0)*m%18446744073709551616))])::(ae ((D.getD j 0)*m/18446744073709551616))::(ae ((D.getD j 0)*m%18446744073709551616))::(AV.tuple [(ae ((((D.getD j 0)*m%18446744073709551616)+ca+0)%18446744073709551616)),(ae ((((D.getD j 0)*m%18446744073709551616)+ca+0) /18446744073709551616))])::(ae ((D.getD j 0)*m%18446744073709551616))::(ae ca)::(AV.tuple [(ae ((((D.getD j 0)*m%18446744073709551616)+ca+0)%18446744073709551616)),(ae ((((D.getD j 0)*m%18446744073709551616)+ca+0) /18446744073709551616))])::(ae ((((D.getD j 0)*m%18446744073709551616)+ca+0)%18446744073709551616))::(ae ((((D.getD j 0)*m%18446744073709551616)+ca+0) /18446744073709551616))::(AV.slice p 0 l.length l.length op)::(ag j)::(ae ((((D.getD j 0)*m%18446744073709551616)+ca+0)%18446744073709551616))::(ae ((D.getD j 0)*m/18446744073709551616))::(ae ((((D.getD j 0)*m%18446744073709551616)+ca+0) /18446744073709551616))::(ae ((((D.getD j 0)*m/18446744073709551616)+((((D.getD j 0)*m%18446744073709551616)+ca+0) /18446744073709551616))%18446744073709551616))::(AV.ptr p j)::(af ((j:Int)+1))::rx x 41 7 [])),h8,ds,rc⟩:=aR (n:=300) (VV (bh 3 false false .i64 (j:Int) ((l.length:Nat):Int))<|BB q1<|CC<|VV ix2<|MM ld3<|CN 4<|EE mu4<|CN 7<|QQ e5<|CN 10<|VV u6<|VV N5<|SS sW<|CC<|VV (iI 3 false true w9)<|CC<|ZZ) k!
  have e1:((D.getD j 0*m%18446744073709551616+ca+0)%18446744073709551616)=(D.getD j 0*m+ca)%18446744073709551616:=by omega
  have e2:((D.getD j 0*m/18446744073709551616)+((D.getD j 0*m%18446744073709551616)+ca+0) /18446744073709551616)%18446744073709551616=(pB l m a (j+1)).2:=by
   simp only[pB]
   rw[←Qm,←CI]
   generalize D.getD j 0*m=P at *
   omega
  have eD:D.set j ((D.getD j 0*m%18446744073709551616+ca+0)%18446744073709551616)=(pB l m a (j+1)).1++l.drop (j+1):=by
   rw[e1]
   simp only[pB]
   rw[Qm,CI,hD]
   exact K5 (sa l m a j) hj
  have g1:=Y6.2.1
  rw[eD] at g1
  rw[e2] at ev
  exact dj ev k! fun x=>qz wl hm ha gD k (j+1) h8 _ _ o! rfl rfl eQ (kp.trans jl) o! g1 x
def BF (h0 h:ah) (z:AV) (l:List Nat):Prop:=(z= .ax∧l=[])∨(l≠ []∧∃p op,z= .slice p 0 l.length l.length op∧h0.nx≤p∧h.get p=some (.cells (aA .u64 l) 54 false))
theorem BF.aA {h0 h:ah} {z:AV} {l:List Nat} (o:BF h0 h z l) (hl:l.length<2^60):ao env h .u64 54 z l:=by
 rcases o with ⟨rfl,rfl⟩ | ⟨hn,p,op,rfl,_,hg⟩
 · exact ao.nil k! k!
 · exact ao.of k! k! hl (Nat.le_refl _) (fun _=>List.length_pos_iff.2 hn) hg fun i z hz=>by rw[Nat.zero_add];exact dP hz
theorem wS {d:Nat} {h0 h:ah} {z:AV} {l:List Nat} {m a:Nat} (oz:BF h0 h z l) (wl:Words l) (hm:m<18446744073709551616) (ha:a<18446744073709551616) (gD:l.length<536870912) (g0:Grow h0 h) (y0:Tidy h0):
 ∃z' hk,aQ (d+2) (.fn 45) [z,.int .u64 (m:Nat),.int .u64 (a:Nat)] h= .ret z' hk∧Grow h0 hk∧BF h0 hk z' (W2 l m a):=by
 have aw:=g0.y
 have hn0:=g0.n
 rcases oz with ⟨rfl,rfl⟩ | ⟨cR,p,op,rfl,hp0,hg⟩
 · have lp:Ev env (aQ (d+1)) (.loop kD) ⟨(bE::(ae m)::(ae a)::aB::aB::aB::bE::(ae a)::aB::aB::aB::aB::aB::(ae a)::bE::(af 0)::(af 0)::aV 31),h,[],.no⟩ (.exit 0) ⟨(bE::(ae m)::(ae a)::aB::aB::aB::bE::(ae a)::aB::aB::aB::aB::aB::(ae a)::bE::(af 0)::(af 0)::(aj false)::aV 30),h,[],.no⟩:=by
    have ev:Ev env (aQ (d+1)) kD ⟨(bE::(ae m)::(ae a)::aB::aB::aB::bE::(ae a)::aB::aB::aB::aB::aB::(ae a)::bE::(af 0)::(af 0)::aV 31),h,[],.no⟩ (.exit 0) ⟨(bE::(ae m)::(ae a)::aB::aB::aB::bE::(ae a)::aB::aB::aB::aB::aB::(ae a)::bE::(af 0)::(af 0)::(aj false)::aV 30),h,[],.no⟩:=aR (n:=300) (CC<|FF<|ZZ) k!
    exact Ev.out ev
   by_cases q:a=0
   · have q1:=TJ ((a:Int)=0)
     have ev:Ev env (aQ (d+1)) iB ⟨(bE::(ae m)::(ae a)::aV 45),h,[],.no⟩ .ret ⟨[bE,(ae m),(ae a),aB,aB,aB,bE,(ae a),aB,aB,aB,aB,aB,(ae a),bE,(af 0),(af 0),(aj false),aB,aB,aB,aB,aB,aB,aB,aB,aB,aB,aB,aB,aB,aB,aB,aB,aB,aB,aB,aB,aB,aB,aB,(ae a),(aj (!decide ((a:Int)=0))),aB,aB,aB,aB,bE],h,[],.no⟩:=aR (n:=300) (CN 6<|LL lp<|CC<|VV (jb 54 false true .u64 (a:Int) 0)<|BB q1<|CN 2<|ZZ) k!
     subst q
     exact ⟨_,_,fP rfl (az Tryz.func45 r_ k! (.inr rfl) ev k!),g0,.inl ⟨rfl,rfl⟩⟩
   · have q1:=W0 ((a:Int)=0)
     obtain ⟨h2,bD,bP,iA,bB,b8⟩:=de aw (ar.cells [(ae a)] 54 false)
     have b7:Has h h2:=b8
     obtain ⟨h3,GD,gn⟩:=append_nil (h:=h2) (tys:= #[56,56]) rfl rfl k! k! k! (bytes:=8) k! (z:=AV.int .u64 0) k! rfl (by decide) (qw (k:=a) (c:=0) bB rfl) (by simp) (by simp)
     have bt:=bI bP gn
     have ky:=cW gn
     have eb:=bU gn
     have aX:=b7.trans (bu bP gn)
     have ev:Ev env (aQ (d+1)) iB ⟨(bE::(ae m)::(ae a)::aV 45),h,[],.no⟩ .ret ⟨[(AV.slice h2.nx 0 1 1 true),(ae m),(ae a),aB,aB,aB,(AV.slice h2.nx 0 1 1 true),(ae a),aB,aB,aB,aB,aB,(ae a),bE,(af 0),(af 0),(aj false),aB,aB,aB,aB,aB,aB,aB,aB,aB,aB,aB,aB,aB,aB,aB,aB,aB,aB,aB,aB,aB,aB,aB,(ae a),(aj (!decide ((a:Int)=0))),bE,(ae a),(AV.slice h.nx 0 1 1 false),(AV.slice h2.nx 0 1 1 true),(AV.slice h2.nx 0 1 1 true)],h3,[],.no⟩:=aR (n:=300) (CN 6<|LL lp<|CC<|VV (jb 54 false true .u64 (a:Int) 0)<|BB q1<|CN 2<|NN bD (fun i=>(AV.slice i 0 1 1 false))<|PP (show dI env h2 #[56,56] bE (AV.slice h.nx 0 1 1 false)=some ((AV.slice h2.nx 0 1 1 true),h3) from GD)<|CN 3<|ZZ) k!
     have nw:¬AV.within h.nx 20 (.slice h2.nx 0 1 1 true)=true:=by
      simp [AV.within];omega
     have e:W2 [] m a=[a]:=by simp [W2,pB,q]
     rw[e]
     exact ⟨_,_,fa rfl (az Tryz.func45 r_ k! (.inr rfl) ev k!) (fun c=>nw c.2),⟨bt,g0.a.trans aX,by omega⟩,.inr ⟨by simp,h2.nx,true,rfl,by omega,eb⟩⟩
 · have tl:=sa l m a l.length
   have hcy:=yr wl hm ha l.length
   have hpp:=aw _ _ hg
   by_cases q:(pB l m a l.length).2=0
   · obtain ⟨h2,⟨yl1,GF⟩,bP,Y7,iA,bB⟩:=qz (d:=d) (hs:=h) (ds:=[]) (rc:= .no) (l:=l) (m:=m) (a:=a) (p:=p) (op:=op) wl hm ha o! l.length 0 h l a o! (by simp [pB]) rfl aw (Kept.refl _ _) rfl hg (fun k_=>(((AV.slice p 0 l.length l.length op)::(ae m)::(ae a)::aB::aB::aB::bE::(ae a)::aB::aB::aB::aB::aB::(ae a)::(AV.slice p 0 l.length l.length op)::(ag l.length)::(af 0)::aV 31):List AV).getD k_ aB)
     have b7:Kept p h h2:=Y7
     have q3:=TJ ((((pB l m a l.length).2:Nat):Int)=0)
     have ev:Ev env (aQ (d+1)) iB ⟨((AV.slice p 0 l.length l.length op)::(ae m)::(ae a)::aV 45),h,[],.no⟩ .ret ⟨((AV.slice p 0 l.length l.length op)::rx yl1 1 5 ((AV.slice p 0 l.length l.length op)::(ae ((pB l m a l.length).2))::rx yl1 8 33 ((ae ((pB l m a l.length).2))::(aj (!decide ((((pB l m a l.length).2:Nat):Int)=0)))::rx yl1 43 4 ((AV.slice p 0 l.length l.length op)::[])))),h2,[],.no⟩:=aR (n:=300) (CN 6<|LL GF<|CC<|VV (jb 54 false true .u64 (((pB l m a l.length).2:Nat):Int) 0)<|BB q3<|CN 2<|ZZ) k!
     obtain ⟨hk,k1,k2,k3,k4,k5⟩:=nH rfl (az Tryz.func45 r_ k! (.inr rfl) ev k!) aw bP o! b7 hg bB
     have e:W2 l m a=(pB l m a l.length).1:=by rw[W2,if_pos q,List.append_nil]
     rw[e]
     refine ⟨_,hk,k1,⟨k2,Has.ak g0.a k4 y0 hp0,by omega⟩,.inr ⟨fun e=>cR ?_,p,op,by rw[tl],hp0,k5⟩⟩
     rw[e] at tl
     exact List.length_eq_zero_iff.1 tl.symm
   · obtain ⟨h2,⟨yl1,GF⟩,bP,Y7,iA,bB⟩:=qz (d:=d) (hs:=h) (ds:=[]) (rc:= .no) (l:=l) (m:=m) (a:=a) (p:=p) (op:=op) wl hm ha o! l.length 0 h l a o! (by simp [pB]) rfl aw (Kept.refl _ _) rfl hg (fun k_=>(((AV.slice p 0 l.length l.length op)::(ae m)::(ae a)::aB::aB::aB::bE::(ae a)::aB::aB::aB::aB::aB::(ae a)::(AV.slice p 0 l.length l.length op)::(ag l.length)::(af 0)::aV 31):List AV).getD k_ aB)
     have b7:Kept p h h2:=Y7
     have q3:=W0 ((((pB l m a l.length).2:Nat):Int)=0)
     obtain ⟨h4,sS,gk,wL,jH,sU⟩:=de bP (ar.cells [(ae ((pB l m a l.length).2))] 54 false)
     have iy:Kept p h h4:=b7.trans sU.kept
     obtain ⟨h5,Y8,fA,wM,ah8,lu⟩:=uJ (op:=op) gk (tys:= #[56,56]) rfl rfl k! k! k! (bytes:=8) k! (z:=AV.int .u64 0) k! rfl (by decide) (qw (k:=((pB l m a l.length).2)) (c:=0) jH rfl) tl (by simp) (by simp;omega) (sU _ _ bB)
     have ep:Kept p h h5:=iy.trans ah8
     have ev:Ev env (aQ (d+1)) iB ⟨((AV.slice p 0 l.length l.length op)::(ae m)::(ae a)::aV 45),h,[],.no⟩ .ret ⟨((AV.slice h4.nx 0 (l.length+1) (l.length+1) true)::rx yl1 1 5 ((AV.slice h4.nx 0 (l.length+1) (l.length+1) true)::(ae ((pB l m a l.length).2))::rx yl1 8 33 ((ae ((pB l m a l.length).2))::(aj (!decide ((((pB l m a l.length).2:Nat):Int)=0)))::(AV.slice p 0 l.length l.length op)::(ae ((pB l m a l.length).2))::(AV.slice h2.nx 0 1 1 false)::(AV.slice h4.nx 0 (l.length+1) (l.length+1) true)::(AV.slice h4.nx 0 (l.length+1) (l.length+1) true)::[]))),h5,[],.no⟩:=aR (n:=300) (CN 6<|LL GF<|CC<|VV (jb 54 false true .u64 (((pB l m a l.length).2:Nat):Int) 0)<|BB q3<|CN 2<|NN sS (fun i=>(AV.slice i 0 1 1 false))<|PP (show dI env h4 #[56,56] (AV.slice p 0 l.length l.length op) (AV.slice h2.nx 0 1 1 false)=some ((AV.slice h4.nx 0 (l.length+1) (l.length+1) true),h5) from Y8)<|CN 3<|ZZ) k!
     have nw:¬AV.within h.nx 20 (.slice h4.nx 0 (l.length+1) (l.length+1) true)=true:=by
      simp [AV.within];omega
     have e:W2 l m a=(pB l m a l.length).1++[(pB l m a l.length).2]:=by rw[W2,if_neg q]
     rw[e]
     exact ⟨_,_,fa rfl (az Tryz.func45 r_ k! (.inr rfl) ev k!) (fun c=>nw c.2),⟨fA,Has.ak g0.a ep y0 hp0,by omega⟩,.inr ⟨by simp,h4.nx,true,by rw[List.length_append,tl];rfl,by omega,lu⟩⟩
theorem Jr {l:List Nat} {m a:Nat}:∀k,Words (pB l m a k).1
 | 0=>fun _ h=>by cases h
 | k+1=>fun w h=>by
  rcases List.mem_append.1 h with h | h
  · exact Jr k w h
  · rcases List.mem_singleton.1 h with rfl
    exact Nat.mod_lt _ (by decide)
theorem Dd {l:List Nat} {m a:Nat} (wl:Words l) (hm:m<18446744073709551616) (ha:a<18446744073709551616):Words (W2 l m a):=fun w h=>by
 rcases List.mem_append.1 h with h | h
 · exact Jr _ w h
 · by_cases q:(pB l m a l.length).2=0
   · rw[if_pos q] at h;cases h
   · rw[if_neg q] at h
     rcases List.mem_singleton.1 h with rfl
     exact yr wl hm ha _
theorem K6 (l:List Nat) (m a:Nat):(W2 l m a).length≤l.length+1:=by
 rw[W2,List.length_append,sa]
 split<;>simp
def ay:List Nat→Nat
 | []=>0
 | w::l=>w+18446744073709551616*ay l
theorem cF (l m:List Nat):ay (l++m)=ay l+18446744073709551616^l.length*ay m:=by
 induction l with
 | nil=>simp [ay]
 | cons w l ih=>
  rw[List.cons_append,ay,ay,ih,List.length_cons,Nat.pow_succ,Nat.mul_add]
  have e:18446744073709551616*(18446744073709551616^l.length*ay m)=18446744073709551616^l.length*18446744073709551616*ay m:=by
   rw[Nat.mul_comm (18446744073709551616^l.length) 18446744073709551616,Nat.mul_assoc]
  omega
theorem jR (l:List Nat) (w:Nat):ay (l++[w])=ay l+18446744073709551616^l.length*w:=by
 rw[cF];simp [ay]
theorem cM {l:List Nat} {k:Nat} (hk:k<l.length):ay (l.take (k+1))=ay (l.take k)+18446744073709551616^k*l.getD k 0:=by
 have e:l.take (k+1)=l.take k++[l.getD k 0]:=by
  rw[List.take_add_one,List.getD_eq_getElem?_getD,List.getElem?_eq_getElem hk];rfl
 rw[e,jR,List.length_take,Nat.min_eq_left (Nat.le_of_lt hk)]
theorem T3 {l:List Nat} {m a:Nat}:∀k,k≤l.length→ay (pB l m a k).1+18446744073709551616^k*(pB l m a k).2=ay (l.take k)*m+a
 | 0,_=>by simp [pB,ay]
 | k+1,hk=>by
  have ih:=T3 (l:=l) (m:=m) (a:=a) k o!
  rw[cM o!]
  simp only[pB]
  rw[jR,sa,Nat.add_mul,Nat.pow_succ]
  have e:=Nat.mod_add_div (l.getD k 0*m+(pB l m a k).2) 18446744073709551616
  generalize (l.getD k 0*m+(pB l m a k).2) /18446744073709551616=Q at *
  generalize (l.getD k 0*m+(pB l m a k).2)%18446744073709551616=R at *
  have e2:18446744073709551616^k*R+18446744073709551616^k*18446744073709551616*Q=18446744073709551616^k*(l.getD k 0*m)+18446744073709551616^k*(pB l m a k).2:=by
   rw[←Nat.mul_add,←e,Nat.mul_add,Nat.mul_assoc]
  rw[←Nat.mul_assoc] at e2
  omega
theorem K7 (l:List Nat) (m a:Nat):ay (W2 l m a)=ay l*m+a:=by
 have h:=T3 (l:=l) (m:=m) (a:=a) l.length (Nat.le_refl _)
 rw[List.take_length] at h
 rw[W2]
 by_cases q:(pB l m a l.length).2=0
 · rw[if_pos q,List.append_nil]
   rw[q] at h
   simpa using h
 · rw[if_neg q,jR,sa]
   exact h
def aq (n:Nat):List Nat:=if h:n=0 then [] else n%18446744073709551616::aq (n/18446744073709551616)
termination_by n
decreasing_by exact Nat.div_lt_self (Nat.pos_of_ne_zero h) (by decide)
theorem cO:aq 0=[]:=by rw[aq];rfl
theorem BG {n:Nat} (h:n≠0):aq n=n%18446744073709551616::aq (n/18446744073709551616):=by rw[aq,dif_neg h]
theorem cd (n:Nat):ay (aq n)=n:=by
 induction n using Nat.strongRecOn with
 | ind n ih=>
  by_cases h:n=0
  · subst h;rw[cO];rfl
  · rw[BG h,ay,ih _ (Nat.div_lt_self (Nat.pos_of_ne_zero h) (by decide))]
    exact Nat.mod_add_div n 18446744073709551616
theorem bH (n:Nat):Words (aq n):=by
 induction n using Nat.strongRecOn with
 | ind n ih=>
  by_cases h:n=0
  · subst h;rw[cO];intro w hw;cases hw
  · rw[BG h]
    intro w hw
    rcases List.mem_cons.1 hw with rfl | hw
    · exact Nat.mod_lt _ (by decide)
    · exact ih _ (Nat.div_lt_self (Nat.pos_of_ne_zero h) (by decide)) w hw
theorem dZ {n:Nat}:aq n=[]↔n=0:=by
 constructor
 · intro h
   have:=cd n
   rw[h] at this
   exact this.symm
 · rintro rfl;exact cO
theorem kN {l:List Nat} (w:Words l):ay l<18446744073709551616^l.length:=by
 induction l with
 | nil=>exact Nat.one_pos
 | cons a l ih=>
  have h1:=ih fun x hx=>w x (List.mem_cons_of_mem _ hx)
  have h2:=w a (List.mem_cons_self ..)
  rw[ay,List.length_cons,Nat.pow_succ]
  have:ay l+1≤18446744073709551616^l.length:=h1
  have:=Nat.mul_le_mul_left 18446744073709551616 this
  rw[Nat.mul_comm (18446744073709551616^l.length)]
  omega
theorem Words.tail {a:Nat} {l:List Nat} (w:Words (a::l)):Words l:=fun x hx=>w x (List.mem_cons_of_mem _ hx)
theorem Words.take {l:List Nat} (w:Words l) (k:Nat):Words (l.take k):=fun x hx=>w x (List.mem_of_mem_take hx)
theorem Words.drop {l:List Nat} (w:Words l) (k:Nat):Words (l.drop k):=fun x hx=>w x (List.mem_of_mem_drop hx)
theorem Words.append {l m:List Nat} (a:Words l) (b:Words m):Words (l++m):=fun x hx=>(List.mem_append.1 hx).elim (a x) (b x)
theorem Words.one {a:Nat} (h:a<18446744073709551616):Words [a]:=fun x hx=>by rcases List.mem_singleton.1 hx with rfl;exact h
theorem Words.nil:Words []:=fun x hx=>by cases hx
theorem VN {l:List Nat} (w:Words l) (h:l=[]∨l.getD (l.length - 1) 0≠0):aq (ay l)=l:=by
 induction l with
 | nil=>exact cO
 | cons a l ih=>
  have ha:=w a (List.mem_cons_self ..)
  have hl:l=[]∨l.getD (l.length - 1) 0≠0:=by
   cases l with
   | nil=>exact .inl rfl
   | cons b l=>exact .inr (by rcases h with h | h;cases h;simpa using h)
  have ih:=ih w.tail hl
  have hn:ay (a::l)≠0:=by
   rw[ay]
   intro e
   have h1:a=0:=by omega
   have h2:ay l=0:=by omega
   rw[h2,cO] at ih
   subst ih
   rcases h with h | h
   · cases h
   · exact h (by simpa using h1)
  rw[BG hn,ay]
  have e1:(a+18446744073709551616*ay l)%18446744073709551616=a:=by omega
  have e2:(a+18446744073709551616*ay l) /18446744073709551616=ay l:=by omega
  rw[e1,e2,ih]
theorem uM (l:List Nat):∀n,n≤l.length→fk l n=0∨l.getD (fk l n - 1) 0≠0
 | 0,_=> .inl rfl
 | n+1,hn=>by
  unfold fk
  split
  · exact uM l n o!
  · rename_i h;exact .inr (by simpa using h)
theorem De (l:List Nat):∀n,n≤l.length→ay (l.take (fk l n))=ay (l.take n)
 | 0,_=>rfl
 | n+1,hn=>by
  unfold fk
  split
  · rename_i h
    rw[De l n o!,cM o!,h,Nat.mul_zero,Nat.add_zero]
  · rfl
theorem VO (l:List Nat):ay (bR l)=ay l:=by
 have:=De l l.length (Nat.le_refl _)
 rw[List.take_length] at this
 exact this
theorem iC {l:List Nat} (w:Words l):bR l=aq (ay l):=by
 rw[←VO l]
 refine (VN (w.take _) ?_).symm
 have hle:=qu l l.length
 rcases uM l l.length (Nat.le_refl _) with h | h
 · exact .inl (by rw[h];rfl)
 · refine .inr ?_
   have e:(l.take (fk l l.length)).length=fk l l.length:=by simp;omega
   rw[e,List.getD_eq_getElem?_getD]
   by_cases hz:fk l l.length=0
   · rw[hz] at h ⊢
     exfalso
     apply h
     have:=De l l.length (Nat.le_refl _)
     rw[hz,List.take_zero,List.take_length] at this
     cases l with
     | nil=>rfl
     | cons a l=>
      have:0=a+18446744073709551616*ay l:=this
      have:a=0:=by omega
      simpa using this
   · rw[List.getElem?_take_of_lt o!,←List.getD_eq_getElem?_getD];exact h
theorem gZ {n k:Nat} (h:n<18446744073709551616^k):(aq n).length≤k:=by
 induction k generalizing n with
 | zero=>
  have:n=0:=by simpa using h
  subst this;rw[cO];exact Nat.le_refl _
 | succ k ih=>
  by_cases hz:n=0
  · subst hz;rw[cO];exact Nat.zero_le _
  · rw[BG hz,List.length_cons]
    have:=ih (n:=n/18446744073709551616) (by rw[Nat.div_lt_iff_lt_mul (by decide)];rwa [Nat.pow_succ] at h)
    omega
theorem nU {l:List Nat} (w:Words l):(aq (ay l)).length≤l.length:=gZ (kN w)
theorem eK {n:Nat} (h0:n≠0) (h:n<18446744073709551616):aq n=[n]:=by
 rw[BG h0,Nat.mod_eq_of_lt h,Nat.div_eq_of_lt h,cO]
theorem Y9 (n:Nat):bR (aq n)=aq n:=by rw[iC (bH n),cd]
theorem bp {α:Type} {tin:(Nat→AV)→List AV} {tout:α→(Nat→AV)→List AV} {b:Code} {s:St} {h:ah} {ds:List cC} {rc:RC} {L:List AV} {e:oA} {Q:α→ah→Prop} {call:aE} (ev:Ev env call b s .normal ⟨L,h,ds,rc⟩) (hl:L=tin fun k=>L.getD k aB)
 (ih:∀x,∃a h',(∃y,Ev env call (.loop b) ⟨tin x,h,ds,rc⟩ e ⟨tout a y,h',ds,rc⟩)∧Q a h'):∃a h',(∃y,Ev env call (.loop b) s e ⟨tout a y,h',ds,rc⟩)∧Q a h':=by
 obtain ⟨a,h',⟨y,h1⟩,h2⟩:=ih fun k=>L.getD k aB
 exact ⟨a,h',⟨y,tg ev hl h1⟩,h2⟩
theorem Js {d:Nat} {h:ah} {b:Bool} {words:AV} {l:List Nat} {v:Nat} (nw:ao env h .u64 54 words l) (w:Words l) (hv:ay l=v) (aw:Tidy h) (hl:l.length<2^30):
 ∃cs hk,aQ (d+3) (.fn 46) [.bool b,words] h= .ret (.agg cs) hk∧Grow h hk∧gY h hk cs (b&&decide (v≠0)) (aq v):=by
 subst hv
 obtain ⟨cs,hk,h1,h2,h3⟩:=Jq (d:=d) (b:=b) nw aw hl
 rw[iC w] at h3
 refine ⟨cs,hk,h1,h2,?_⟩
 have:decide (aq (ay l)≠ [])=decide (ay l≠0):=by
  by_cases q:ay l=0
  · rw[q,cO];rfl
  · rw[decide_eq_true q,decide_eq_true];exact fun e=>q (dZ.1 e)
 rw[this] at h3
 exact h3
theorem tq {d:Nat} {h:ah} {words:AV} {l:List Nat} {v:Nat} (nw:ao env h .u64 54 words l) (w:Words l) (hv:ay l=v) (aw:Tidy h) (hl:l.length<2^30):
 ∃cs hk,aQ (d+3) (.fn 46) [.bool false,words] h= .ret (.agg cs) hk∧Grow h hk∧gY h hk cs false (aq v):=Js (b:=false) nw w hv aw hl
theorem uN {d:Nat} {h:ah} {k:Nat} (hk:k<9223372036854775808) (aw:Tidy h):
 ∃cs hk,aQ (d+4) (.fn 19) [.int .i64 (k:Nat)] h= .ret (.agg cs) hk∧Grow h hk∧gY h hk cs false (aq k):=by
 obtain ⟨cs,IZ,h1,h2,h3⟩:=acO (d:=d) hk aw
 rw[iC (Words.one o!)] at h3
 have:ay [k]=k:=by simp [ay]
 rw[this] at h3
 exact ⟨cs,IZ,h1,h2,h3⟩
noncomputable def uO:Code:=(Tryz.f20.body).getD .skip
theorem acP:Tryz.f20.body=some uO:=by kernel_rfl
noncomputable def yu:Code:=(aY uO).getD 0 .skip
noncomputable def yx:Code:=(aY uO).getD 1 .skip
theorem D_ {d:Nat} {h0:ah} {ds:List cC} {rc:RC} {w2:AV} (y0:Tidy h0):∀(q r:Nat) (h:ah) (z:AV) (l:List Nat) (n:Nat),n=19*q+r→r<19→n<2^40→BF h0 h z l→Words l→Grow h0 h→l.length+q<536870912→∀x:Nat→AV,
 ∃(zz:AV) (h':ah),(∃y:Nat→AV,Ev env (aQ (d+3)) (.loop yu) ⟨((ag n)::(x 1)::w2::z::rx x 4 15 []),h,ds,rc⟩ (.exit 0) ⟨((ag r)::(y 1)::w2::zz::rx y 4 15 []),h',ds,rc⟩)∧∃l',BF h0 h' zz l'∧Words l'∧Grow h0 h'∧l'.length≤l.length+q∧ay l'=ay l*10000000000000000000^q
 | 0,r,h,z,l,n,hn,hr,hb,oz,wl,g0,hl,x=>by
  obtain rfl:n=r:=by omega
  have aw:=g0.y
  have q1:=cI (19≤(n:Int))
  have ev:=vG (d+3) yu ((ag n)::(x 1)::w2::z::rx x 4 15 []) h ds rc (.exit 0) h (CC<|VV (bV 3 false true .i64 (n:Int) 19)<|BB q1<|ZZ) k!
  exact ⟨z,h,cT (Ev.out ev) k!,l,oz,wl,g0,by omega,by simp⟩
 | q+1,r,h,z,l,n,hn,hr,hb,oz,wl,g0,hl,x=>by
  have aw:=g0.y
  have hle:=K6 l 10000000000000000000 0
  have q1:=dg (19≤(n:Int))
  obtain ⟨z2,h2,Y_,G2,W3⟩:=wS (d:=d+1) (m:=10000000000000000000) (a:=0) oz wl (by first | decide | omega) (by first | decide | omega) o! g0 y0
  have bP:=G2.y
  have w3:=fS ((n:Int) - 19)
  have ev:=vG (d+3) yu ((ag n)::(x 1)::w2::z::rx x 4 15 []) h ds rc .normal h2 (CC<|VV (bV 3 false true .i64 (n:Int) 19)<|BB q1<|CC<|EE Y_<|CN 2<|VV (bT 3 false true w3)<|CC<|ZZ) k!
  have WO:n - 19=19*q+r:=by omega
  have e0:(n:Int) - 19=((n - 19:Nat):Int):=by omega
  rw[e0] at ev
  refine bp (tin:=fun x=>((ag (n - 19))::(x 1)::w2::z2::rx x 4 15 [])) ev k! fun x=>?_
  obtain ⟨zz,h',ev',l',a1,a2,a3,a4,a5⟩:=D_ y0 q r _ _ _ (n - 19) WO hr o! W3 (Dd wl (by decide) (by decide)) G2 o! x
  refine ⟨zz,h',ev',l',a1,a2,a3,by omega,?_⟩
  rw[a5,K7,Nat.add_zero,Nat.pow_succ,Nat.mul_assoc,Nat.mul_comm 10000000000000000000]
theorem Ea {d:Nat} {h0:ah} {ds:List cC} {rc:RC} {w2:AV} (y0:Tidy h0):∀(q:Nat) (h:ah) (z:AV) (l:List Nat),q<2^40→BF h0 h z l→Words l→Grow h0 h→l.length+q<536870912→∀x:Nat→AV,
 ∃(zz:AV) (h':ah),(∃y:Nat→AV,Ev env (aQ (d+3)) (.loop yx) ⟨((ag q)::(x 1)::w2::z::rx x 4 15 []),h,ds,rc⟩ (.exit 2) ⟨((ag 0)::(y 1)::w2::zz::rx y 4 15 []),h',ds,rc⟩)∧∃l',BF h0 h' zz l'∧Words l'∧Grow h0 h'∧l'.length≤l.length+q∧ay l'=ay l*10^q
 | 0,h,z,l,hb,oz,wl,g0,hl,x=>by
  have aw:=g0.y
  have q1:=cI (0<((0:Nat):Int))
  have ev:=vG (d+3) yx ((ag 0)::(x 1)::w2::z::rx x 4 15 []) h ds rc (.exit 2) h (CC<|VV (bM 3 false true .i64 ((0:Nat):Int) 0)<|BB q1<|ZZ) k!
  exact ⟨z,h,cT (Ev.out ev) k!,l,oz,wl,g0,by omega,by simp⟩
 | q+1,h,z,l,hb,oz,wl,g0,hl,x=>by
  have aw:=g0.y
  have hle:=K6 l 10 0
  have q1:=dg (0<(((q+1):Nat):Int))
  obtain ⟨z2,h2,Y_,G2,W3⟩:=wS (d:=d+1) (m:=10) (a:=0) oz wl (by first | decide | omega) (by first | decide | omega) o! g0 y0
  have bP:=G2.y
  have w3:=fS ((((q+1):Nat):Int) - 1)
  have ev:=vG (d+3) yx ((ag (q+1))::(x 1)::w2::z::rx x 4 15 []) h ds rc .normal h2 (CC<|VV (bM 3 false true .i64 (((q+1):Nat):Int) 0)<|BB q1<|CC<|EE Y_<|CN 2<|VV (bT 3 false true w3)<|CC<|ZZ) k!
  have e0:((q+1:Nat):Int) - 1=(q:Int):=by omega
  rw[e0] at ev
  refine bp (tin:=fun x=>((ag q)::(x 1)::w2::z2::rx x 4 15 [])) ev k! fun x=>?_
  obtain ⟨zz,h',ev',l',a1,a2,a3,a4,a5⟩:=Ea y0 q _ _ _ o! W3 (Dd wl (by decide) (by decide)) G2 o! x
  refine ⟨zz,h',ev',l',a1,a2,a3,by omega,?_⟩
  rw[a5,K7,Nat.add_zero,Nat.pow_succ,Nat.mul_assoc,Nat.mul_comm 10]
theorem acQ {d:Nat} {h:ah} {n:Nat} (hn:n<100000000) (aw:Tidy h):
 ∃cs hk,aQ (d+4) (.fn 20) [.int .i64 (n:Nat)] h= .ret (.agg cs) hk∧Grow h hk∧gY h hk cs false (aq (10^n)):=by
 have hdm:=Nat.div_add_mod n 19
 have VP:=Nat.mod_lt n (show 0<19 by decide)
 have ak7:∀la:List Nat,la=[1]→ay la*10000000000000000000^(n/19)*10^(n%19)=10^n:=fun la Df=>by
  rw[show (10000000000000000000:Nat)=10^19 from rfl,←Nat.pow_mul,Nat.mul_assoc,←Nat.pow_add,hdm,Df]
  simp [ay]
 obtain ⟨h1,aO,aK,bm,aC,ck⟩:=de aw (ar.cells (au false 0 0 0 0 bE 0) 60 false)
 have aD:Has h h1:=ck
 obtain ⟨h2,bD,bP,iA,bB,b8⟩:=de aK (ar.cells [(aa 1)] 54 false)
 obtain ⟨la,Df⟩:∃l:List Nat,l=[1]:=⟨_,rfl⟩
 have oza:BF h1 h2 (AV.slice h1.nx 0 1 1 false) la:=by subst Df;exact .inr ⟨by simp,_,_,rfl,by omega,bB⟩
 have wa:Words la:=by subst Df;exact Words.one (by decide)
 have lla:la.length=1:=by subst Df;rfl
 have Ga:Grow h1 h2:=⟨bP,bu aK bD,by omega⟩
 obtain ⟨za,h4,⟨yl3,RX⟩,lc,ozc,wc,Gb,lec,va⟩:=D_ (d:=d) (ds:=[]) (rc:= .no) aK (n/19) (n%19) h2 _ la n o! VP o! oza wa Ga o! (fun k_=>(((ag n)::aB::(AV.ptr h.nx 0)::(AV.slice h1.nx 0 1 1 false)::(AV.slice h1.nx 0 1 1 false)::aV 14):List AV).getD k_ aB)
 have gk:=Gb.y
 have VL:=Gb.n
 obtain ⟨zb,h6,⟨yl5,AE⟩,lb,ozb,wb,Gc,leb,vb⟩:=Ea (d:=d) (ds:=[]) (rc:= .no) aK (n%19) h4 _ lc o! ozc wc Gb o! (fun k_=>(((ag (n%19))::(yl3 1)::(AV.ptr h.nx 0)::za::rx yl3 4 15 []):List AV).getD k_ aB)
 have dh:=Gc.y
 have GG:=Gc.n
 have dK:=aD.trans Gc.a
 obtain ⟨cs,h7,ml,oM,zv⟩:=tq (d:=d) (v:=10^n) (ozb.aA o!) wb (by rw[vb,va];exact ak7 la Df) dh o!
 have eC:=oM.y
 have IA:=oM.n
 obtain ⟨w0,w1,w2,w3,far,rfl,sc,hc,hf⟩:=id zv
 have eJ:=dK.trans oM.a
 have sc9:AV.scalar far=true:=sc
 obtain ⟨h8,sW,eQ,BE,nI,gQ⟩:=b9 (t:=60) (n:=7) (i:=h.nx) (L:=(bz false w0 w1 w2 w3 far ((aq (10^n)).length))) eC (oM.a _ _ (Gc.a _ _ aC)) k! rfl rfl z!
 have jl:=Has.ak eJ gQ aw o!
 have ev:=pk (d+3) uO ((ag n)::aV 18) h .ret h8 (NN aO (fun i=>(AV.ptr i 0))<|NN bD (fun i=>(AV.slice i 0 1 1 false))<|CC<|LL (show Ev env (aQ (d+3)) (.loop yu) ⟨((ag n)::aB::(AV.ptr h.nx 0)::(AV.slice h1.nx 0 1 1 false)::(AV.slice h1.nx 0 1 1 false)::aV 14),h2,[],.no⟩ (.exit 0) ⟨((ag (n%19))::(yl3 1)::(AV.ptr h.nx 0)::za::rx yl3 4 15 []),h4,[],.no⟩ from RX)<|LL (show Ev env (aQ (d+3)) (.loop yx) ⟨((ag (n%19))::(yl3 1)::(AV.ptr h.nx 0)::za::rx yl3 4 15 []),h4,[],.no⟩ (.exit 2) ⟨((ag 0)::(yl5 1)::(AV.ptr h.nx 0)::zb::rx yl5 4 15 []),h6,[],.no⟩ from AE)<|CC<|EE ml<|SS sW<|ZZ) k!
 have GB:=(zv.kept gQ o! o!)
 exact ⟨_,aU rfl (bn (a:=2) (t:=60) Tryz.func20 acP k! (.inr rfl) ev k! (aN nI k!)) aw ⟨eQ,jl,by omega⟩ (P:=fun hh=>gY h hh _ _ _) (GB.mono o!) fun v=>GB.fit o! v⟩
noncomputable def kS:Code:=(Tryz.f17.body).getD .skip
theorem uP:Tryz.f17.body=some kS:=by kernel_rfl
noncomputable def fB:Code:=(aY kS).getD 0 .skip
theorem Dg {call:aE} {h:ah} {ds:List cC} {rc:RC} {x1 x2 x3 x4 x5 x9 x10 x11 x12 x13 x14 x15 x16 x17 x18 x19 x20:AV} {s:List UInt8} {a:AV} {n i:Int} {p2 p3:Nat} {y5:Int} (q1:(decide (i<n))=true) (c4:bq env (some (.slice 5)) (some a) (some (af i))=some (AV.ptr p2 p3)) (c6:bk env h 5 (AV.ptr p2 p3)=some (bj y5)) (q7:(decide (y5<48))=true):
 Ev env call fB ⟨[(AV.str s),x1,x2,x3,x4,x5,a,(af n),(af i),x9,x10,x11,x12,x13,x14,x15,x16,x17,x18,x19,x20],h,ds,rc⟩ .ret ⟨[(AV.str s),x1,(aj false),x3,(bj y5),x5,a,(af n),(af i),(aj (decide (i<n))),(AV.ptr p2 p3),(bj y5),(bj y5),(aj (decide (y5<48))),(aj (decide (y5<48))),aB,aB,(aj true),x18,x19,x20],h,ds,rc⟩:=
 aR (n:=200) (VV (bh 3 false false .i64 i n)<|BB q1<|VV c4<|MM c6<|CN 2<|VV (bh 5 false true .u8 y5 48)<|CC<|BB q7<|BB q7<|VV (aG (a:=some (aj true)) (b:=some aB) q7)<|TT<|CC<|ZZ) k!
theorem Dh {call:aE} {h:ah} {ds:List cC} {rc:RC} {x1 x2 x3 x4 x5 x9 x10 x11 x12 x13 x14 x15 x16 x17 x18 x19 x20:AV} {s:List UInt8} {a:AV} {n i:Int} {p2 p3:Nat} {y5:Int} (q1:(decide (i<n))=true) (c4:bq env (some (.slice 5)) (some a) (some (af i))=some (AV.ptr p2 p3)) (c6:bk env h 5 (AV.ptr p2 p3)=some (bj y5)) (q7:(decide (y5<48))=false) (q8:(decide (57<y5))=true):
 Ev env call fB ⟨[(AV.str s),x1,x2,x3,x4,x5,a,(af n),(af i),x9,x10,x11,x12,x13,x14,x15,x16,x17,x18,x19,x20],h,ds,rc⟩ .ret ⟨[(AV.str s),x1,(aj false),x3,(bj y5),x5,a,(af n),(af i),(aj (decide (i<n))),(AV.ptr p2 p3),(bj y5),(bj y5),(aj (decide (y5<48))),(aj (decide (y5<48))),(bj y5),(aj (decide (57<y5))),(aj (decide (57<y5))),x18,x19,x20],h,ds,rc⟩:=
 aR (n:=200) (VV (bh 3 false false .i64 i n)<|BB q1<|VV c4<|MM c6<|CN 2<|VV (bh 5 false true .u8 y5 48)<|CC<|BB q7<|CC<|BB q7<|VV (bM 5 false true .u8 y5 57)<|VV (aL (a:=some (aj true)) (b:=some (aj (decide (57<y5)))) q7)<|BB q8<|CC<|ZZ) k!
theorem tt {call:aE} {h:ah} {ds:List cC} {rc:RC} {x1 x2 x3 x4 x5 x9 x10 x11 x12 x13 x14 x15 x16 x17 x18 x19 x20:AV} {s:List UInt8} {a:AV} {n i:Int} {p2 p3:Nat} {y5:Int} (q1:(decide (i<n))=true) (c4:bq env (some (.slice 5)) (some a) (some (af i))=some (AV.ptr p2 p3)) (c6:bk env h 5 (AV.ptr p2 p3)=some (bj y5)) (q7:(decide (y5<48))=false) (q8:(decide (57<y5))=false) (w9:IntKind.i64.wrap (i+1)=i+1):
 Ev env call fB ⟨[(AV.str s),x1,x2,x3,x4,x5,a,(af n),(af i),x9,x10,x11,x12,x13,x14,x15,x16,x17,x18,x19,x20],h,ds,rc⟩ .normal ⟨[(AV.str s),x1,x2,x3,(bj y5),x5,a,(af n),(af (i+1)),(aj (decide (i<n))),(AV.ptr p2 p3),(bj y5),(bj y5),(aj (decide (y5<48))),(aj (decide (y5<48))),(bj y5),(aj (decide (57<y5))),(aj (decide (57<y5))),(af (i+1)),x19,x20],h,ds,rc⟩:=
 aR (n:=200) (VV (bh 3 false false .i64 i n)<|BB q1<|VV c4<|MM c6<|CN 2<|VV (bh 5 false true .u8 y5 48)<|CC<|BB q7<|CC<|BB q7<|VV (bM 5 false true .u8 y5 57)<|VV (aL (a:=some (aj true)) (b:=some (aj (decide (57<y5)))) q7)<|BB q8<|VV (iI 3 false true w9)<|CC<|ZZ) k!
theorem tu {call:aE} {h:ah} {ds:List cC} {rc:RC} {x1 x2 x3 x4 x5 x9 x10 x11 x12 x13 x14 x15 x16 x17 x18 x19 x20:AV} {s:List UInt8} {a:AV} {n i:Int} (q1:(decide (i<n))=false):
 Ev env call fB ⟨[(AV.str s),x1,x2,x3,x4,x5,a,(af n),(af i),x9,x10,x11,x12,x13,x14,x15,x16,x17,x18,x19,x20],h,ds,rc⟩ (.exit 0) ⟨[(AV.str s),x1,x2,x3,x4,x5,a,(af n),(af i),(aj (decide (i<n))),x10,x11,x12,x13,x14,x15,x16,x17,x18,x19,x20],h,ds,rc⟩:=
 aR (n:=200) (VV (bh 3 false false .i64 i n)<|BB q1<|ZZ) k!
theorem IB {call:aE} {h:ah} {s:List UInt8} {rb:Bool} (aw:Tidy h) (ES:0≤h.nx) (e4:∀hh,Tidy hh→Has h hh→hh.nx=h.nx+1→hh.get h.nx=some (ar.cells (List.map (fun b=>AV.int .u8 b.toNat) s) 5 false)→∃iK:Nat→AV,Ev env call (.loop fB) ⟨((AV.str s)::aB::(aj false)::aB::aB::(AV.str s)::(AV.slice h.nx 0 (List.length s) (List.length s) true)::(ag (List.length s))::(af 0)::aV 12),hh,[],.no⟩ .ret ⟨[(AV.str s),(iK 1),(aj rb),(iK 3),(iK 4),(iK 5),(iK 6),(iK 7),(iK 8),(iK 9),(iK 10),(iK 11),(iK 12),(iK 13),(iK 14),(iK 15),(iK 16),(iK 17),(iK 18),(iK 19),(iK 20)],hh,[],.no⟩):
 ∃(h1:ah) (iK:Nat→AV),Ev env call kS ⟨((AV.str s)::aV 20),h,[],.no⟩ .ret ⟨[(AV.str s),(iK 1),(aj rb),(iK 3),(iK 4),(iK 5),(iK 6),(iK 7),(iK 8),(iK 9),(iK 10),(iK 11),(iK 12),(iK 13),(iK 14),(iK 15),(iK 16),(iK 17),(iK 18),(iK 19),(iK 20)],h1,[],.no⟩∧Tidy h1∧Has h h1∧h1.nx=h.nx+1∧h1.get h.nx=some (ar.cells (List.map (fun b=>AV.int .u8 b.toNat) s) 5 false):=by
 obtain ⟨h1,aO⟩:=eH (h:=h) (ar.cells (List.map (fun b=>AV.int .u8 b.toNat) s) 5 false)
 have aK:=bI aw aO
 have bm:h1.nx=h.nx+1:=by rw[cW aO]
 have aD:=bu aw aO
 have aC:=bU aO
 obtain ⟨iK,RY⟩:=e4 _ aK aD bm aC
 exact ⟨h1,iK,aR (n:=200) (CN 2<|PP (show zD env h 9 97 (some (AV.str s))=some ((AV.slice h.nx 0 (List.length s) (List.length s) true),h1) from KL (e:=5) k! k! k! k! aO rfl)<|CN 2<|LL RY<|ZZ) k!,aK,aD,bm,aC⟩
theorem zP {call:aE} {h:ah} {s:List UInt8} {rb:Bool} (aw:Tidy h) (ES:0≤h.nx) (e4:∀hh,Tidy hh→Has h hh→hh.nx=h.nx+1→hh.get h.nx=some (ar.cells (List.map (fun b=>AV.int .u8 b.toNat) s) 5 false)→∃iK:Nat→AV,Ev env call (.loop fB) ⟨((AV.str s)::aB::(aj false)::aB::aB::(AV.str s)::(AV.slice h.nx 0 (List.length s) (List.length s) true)::(ag (List.length s))::(af 0)::aV 12),hh,[],.no⟩ (.exit 0) ⟨[(AV.str s),(iK 1),(aj rb),(iK 3),(iK 4),(iK 5),(iK 6),(iK 7),(iK 8),(iK 9),(iK 10),(iK 11),(iK 12),(iK 13),(iK 14),(iK 15),(iK 16),(iK 17),(iK 18),(iK 19),(iK 20)],hh,[],.no⟩):
 ∃(h1:ah) (iK:Nat→AV),Ev env call kS ⟨((AV.str s)::aV 20),h,[],.no⟩ .ret ⟨[(AV.str s),(iK 1),(aj (!decide (s=[]))),(iK 3),(iK 4),(iK 5),(iK 6),(iK 7),(iK 8),(iK 9),(iK 10),(iK 11),(iK 12),(iK 13),(iK 14),(iK 15),(iK 16),(iK 17),(iK 18),(AV.str s),(aj (!decide (s=[])))],h1,[],.no⟩∧Tidy h1∧Has h h1∧h1.nx=h.nx+1∧h1.get h.nx=some (ar.cells (List.map (fun b=>AV.int .u8 b.toNat) s) 5 false):=by
 obtain ⟨h1,aO⟩:=eH (h:=h) (ar.cells (List.map (fun b=>AV.int .u8 b.toNat) s) 5 false)
 have aK:=bI aw aO
 have bm:h1.nx=h.nx+1:=by rw[cW aO]
 have aD:=bu aw aO
 have aC:=bU aO
 obtain ⟨iK,RY⟩:=e4 _ aK aD bm aC
 exact ⟨h1,iK,aR (n:=200) (CN 2<|PP (show zD env h 9 97 (some (AV.str s))=some ((AV.slice h.nx 0 (List.length s) (List.length s) true),h1) from KL (e:=5) k! k! k! k! aO rfl)<|CN 2<|LL RY<|CC<|VV (VF 9 false true s [])<|CC<|ZZ) k!,aK,aD,bm,aC⟩
def oc (n:Nat):Bool:=decide (48≤n)&&decide (n≤57)
theorem tw {call:aE} {h:ah} {ds:List cC} {rc:RC} {s:List UInt8} {a w2:AV} {l:List Nat} (ha:ao env h .u8 5 a l):
 ∀(k:Nat) (i:Int) (j:Nat),j+k=l.length→i=(j:Nat)→(l.drop j).all oc=true→∀(x:Nat→AV),∃y:Nat→AV,Ev env call (.loop fB) ⟨[(AV.str s),(x 1),w2,(x 3),(x 4),(x 5),a,(ag l.length),(af i),(x 9),(x 10),(x 11),(x 12),(x 13),(x 14),(x 15),(x 16),(x 17),(x 18),(x 19),(x 20)],h,ds,rc⟩ (.exit 0) ⟨[(AV.str s),(y 1),w2,(y 3),(y 4),(y 5),(y 6),(y 7),(y 8),(y 9),(y 10),(y 11),(y 12),(y 13),(y 14),(y 15),(y 16),(y 17),(y 18),(y 19),(y 20)],h,ds,rc⟩
 | 0,i,j,hk,hi,hd,x=>cT (Ev.out (tu (dF o!))) k!
 | k+1,i,j,hk,hi,hd,x=>by
  have hs:=ha.small
  have hj:j<l.length:=by omega
  obtain ⟨p1,q1,i1,l1⟩:=ha.elem (fK hj)
  rw[←hi] at i1
  have e:l.drop j=l.getD j 0::l.drop (j+1):=by
   rw[List.drop_eq_getElem_cons hj,List.getD_eq_getElem?_getD,List.getElem?_eq_getElem hj];rfl
  rw[e,List.all_cons,Bool.and_eq_true,oc,Bool.and_eq_true,decide_eq_true_eq,decide_eq_true_eq] at hd
  exact bO (tt (dT o!) i1 l1 (dF o!) (dF o!) (wrap_i64 o! o!)) k! (tw (w2:=w2) ha k (i+1) (j+1) o! o! hd.2)
theorem tz {call:aE} {h:ah} {ds:List cC} {rc:RC} {s:List UInt8} {a w2:AV} {l:List Nat} (ha:ao env h .u8 5 a l):
 ∀(k:Nat) (i:Int) (j:Nat),j+k=l.length→i=(j:Nat)→(l.drop j).all oc=false→∀(x:Nat→AV),∃y:Nat→AV,Ev env call (.loop fB) ⟨[(AV.str s),(x 1),w2,(x 3),(x 4),(x 5),a,(ag l.length),(af i),(x 9),(x 10),(x 11),(x 12),(x 13),(x 14),(x 15),(x 16),(x 17),(x 18),(x 19),(x 20)],h,ds,rc⟩ .ret ⟨[(AV.str s),(y 1),(aj false),(y 3),(y 4),(y 5),(y 6),(y 7),(y 8),(y 9),(y 10),(y 11),(y 12),(y 13),(y 14),(y 15),(y 16),(y 17),(y 18),(y 19),(y 20)],h,ds,rc⟩
 | 0,i,j,hk,hi,hd,x=>by
  rw[List.drop_of_length_le o!] at hd;cases hd
 | k+1,i,j,hk,hi,hd,x=>by
  have hs:=ha.small
  have hj:j<l.length:=by omega
  obtain ⟨p1,q1,i1,l1⟩:=ha.elem (fK hj)
  rw[←hi] at i1
  have e:l.drop j=l.getD j 0::l.drop (j+1):=by
   rw[List.drop_eq_getElem_cons hj,List.getD_eq_getElem?_getD,List.getElem?_eq_getElem hj];rfl
  by_cases h1:l.getD j 0<48
  · exact cT (Ev.ret (Dg (dT o!) i1 l1 (dT o!))) k!
  · by_cases h2:57<l.getD j 0
    · exact cT (Ev.ret (Dh (dT o!) i1 l1 (dF o!) (dT o!))) k!
    · have hd':(l.drop (j+1)).all oc=false:=by
       rw[e,List.all_cons,oc,decide_eq_true (show 48≤l.getD j 0 by omega),decide_eq_true (show l.getD j 0≤57 by omega)] at hd
       exact hd
      exact bO (tt (dT o!) i1 l1 (dF o!) (dF o!) (wrap_i64 o! o!)) k! (tz (w2:=w2) ha k (i+1) (j+1) o! o! hd')
theorem N6 {h:ah} {b:Nat} {s:List UInt8} (hs:s.length<2^60) (hg:h.get b=some (.cells (s.map fun b=> .int .u8 b.toNat) 5 false)):ao env h .u8 5 (.slice b 0 s.length s.length (decide (s≠ []))) (s.map UInt8.toNat):=by
 have:ao env h .u8 5 (.slice b 0 (s.map UInt8.toNat).length s.length (decide (s≠ []))) (s.map UInt8.toNat):=
  ao.of k! k! (by simpa using hs) (by simp) (fun e=>List.length_pos_iff.2 (of_decide_eq_true e)) hg fun i z hz=>by
   rw[Nat.zero_add]
   rw[List.getElem?_map] at hz ⊢
   cases hq:s[i]? with
   | none=>rw[hq] at hz;cases hz
   | some c=>rw[hq] at hz;cases hz;rfl
 simpa using this
theorem mD {d:Nat} {h:ah} (s:List UInt8) (hs:s.length<2^60) (hy:Tidy h) (po:0≤h.nx):
 aQ (d+1) (.fn 17) [.str s] h= .ret (.bool ((s.map UInt8.toNat).all oc&& !decide (s=[]))) h:=by
 have na:∀hh:ah,s≠ []→hh.get h.nx=some (.cells (s.map fun b=> .int .u8 b.toNat) 5 false)→ao env hh .u8 5 (.slice h.nx 0 s.length s.length true) (s.map UInt8.toNat):=fun hh q g=>by
  have:=N6 hs g
  rw[decide_eq_true q] at this
  exact this
 by_cases q:s=[]
 · subst q
   obtain ⟨h1,yz,ev,y1,a1,_⟩:=zP (call:=aQ d) (rb:=false) (s:=[]) hy po fun hh t a n g=>cT (Ev.out (tu (dF (by simp)))) k!
   exact ai rfl (az Tryz.func17 uP k! (.inr rfl) ev k!) a1 rfl
 · rw[show (!decide (s=[]))=true from nT q,Bool.and_true]
   have el:(s.map UInt8.toNat).length=s.length:=by simp
   cases hd:(s.map UInt8.toNat).all oc with
   | true=>
    obtain ⟨h1,yz,ev,y1,a1,_⟩:=zP (call:=aQ d) (rb:=false) (s:=s) hy po fun hh t a n g=>by
     have:=fun x=>tw (call:=aQ d) (h:=hh) (ds:=[]) (rc:= .no) (s:=s) (w2:= .bool false) (na hh q g) (s.map UInt8.toNat).length 0 0 (Nat.zero_add _) rfl hd x
     rw[el] at this
     exact Jk this k!
    rw[←nT q]
    exact ai rfl (az Tryz.func17 uP k! (.inr rfl) ev k!) a1 rfl
   | false=>
    obtain ⟨h1,yz,ev,y1,a1,_⟩:=IB (call:=aQ d) (rb:=false) (s:=s) hy po fun hh t a n g=>by
     have:=fun x=>tz (call:=aQ d) (h:=hh) (ds:=[]) (rc:= .no) (s:=s) (w2:= .bool false) (na hh q g) (s.map UInt8.toNat).length 0 0 (Nat.zero_add _) rfl hd x
     rw[el] at this
     exact Jk this k!
    exact ai rfl (az Tryz.func17 uP k! (.inr rfl) ev k!) a1 rfl
noncomputable def kU:Code:=(Tryz.f18.body).getD .skip
theorem K8:Tryz.f18.body=some kU:=by kernel_rfl
noncomputable def jI:Code:=(aY kU).getD 0 .skip
noncomputable def mE:Code:=(aY kU).getD 1 .skip
def bJ (l:List Nat):Nat:=l.foldl (fun v c=>v*10+(c - 48)) 0
theorem yA (l:List Nat) (c:Nat):bJ (l++[c])=bJ l*10+(c - 48):=by simp [bJ]
theorem GH (l:List Nat) (v:Nat):l.foldl (fun v c=>v*10+(c - 48)) v=v*10^l.length+bJ l:=by
 induction l generalizing v with
 | nil=>simp [bJ]
 | cons a l ih=>
  have e:bJ (a::l)=(a - 48)*10^l.length+bJ l:=by
   show List.foldl _ (0*10+(a - 48)) l=_
   rw[ih,Nat.zero_mul,Nat.zero_add]
  have e2:v*10*10^l.length=v*10^(l.length+1):=by rw[Nat.pow_succ,Nat.mul_assoc,Nat.mul_comm 10]
  rw[List.foldl_cons,ih,e,List.length_cons,Nat.add_mul,e2]
  omega
theorem yB (a:Nat) (l:List Nat):bJ (a::l)=(a - 48)*10^l.length+bJ l:=by
 show List.foldl _ (0*10+(a - 48)) l=_
 rw[GH,Nat.zero_mul,Nat.zero_add]
theorem Eb (l m:List Nat):bJ (l++m)=bJ l*10^m.length+bJ m:=by
 rw[bJ,List.foldl_append,GH];rfl
def jy (l:List Nat):Prop:=∀c∈l,48≤c∧c≤57
theorem jy.take {l:List Nat} (h:jy l) (k:Nat):jy (l.take k):=fun c hc=>h c (List.mem_of_mem_take hc)
theorem jy.drop {l:List Nat} (h:jy l) (k:Nat):jy (l.drop k):=fun c hc=>h c (List.mem_of_mem_drop hc)
theorem pC {l:List Nat} (h:jy l):bJ l<10^l.length:=by
 induction l with
 | nil=>exact Nat.one_pos
 | cons a l ih=>
  have h1:=ih fun x hx=>h x (List.mem_cons_of_mem _ hx)
  have h2:=h a (List.mem_cons_self ..)
  rw[yB,List.length_cons,Nat.pow_succ]
  have:(a - 48)*10^l.length≤9*10^l.length:=Nat.mul_le_mul_right _ o!
  omega
theorem tC {l:List Nat} {j:Nat} (hj:j<l.length):l.take (j+1)=l.take j++[l.getD j 0]:=by
 rw[List.take_add_one,List.getD_eq_getElem?_getD,List.getElem?_eq_getElem hj];rfl
theorem aeh {j:Nat} (hj:j≤19):10^j≤10000000000000000000:=Nat.pow_le_pow_right (by decide) hj (n:=10)
theorem tE {d:Nat} {h:ah} {ds:List cC} {rc:RC} {a w0 w2 w3 w4:AV} {l:List Nat} {n:Nat} (hn:n=l.length) (ha:ao env h .u8 5 a l) (hd:jy l) (hl:l.length≤19):
 ∀(k j:Nat) (word unit:Nat),j+k=l.length→word=bJ (l.take j)→unit=10^j→∀x:Nat→AV,
  ∃y:Nat→AV,Ev env (aQ (d+3)) (.loop mE) ⟨(w0::(x 1)::w2::w3::w4::(ae word)::(ae unit)::rx x 7 11 (a::(ag n)::(ag j)::rx x 21 21 [])),h,ds,rc⟩ (.exit 2) ⟨(w0::(y 1)::w2::w3::w4::(ae (bJ l))::(ae (10^l.length))::rx y 7 35 []),h,ds,rc⟩
 | 0,j,word,unit,hk,hw,hu,x=>by
  have hj:j=l.length:=by omega
  have q1:=cI ((j:Int)<(n:Int))
  have ev:=vG (d+3) mE (w0::(x 1)::w2::w3::w4::(ae word)::(ae unit)::rx x 7 11 (a::(ag n)::(ag j)::rx x 21 21 [])) h ds rc (.exit 2) h (VV (bh 3 false false .i64 (j:Int) (n:Int))<|BB q1<|ZZ) k!
  subst hj
  rw[List.take_length] at hw
  subst hw hu
  exact cT (Ev.out ev) k!
 | k+1,j,word,unit,hk,hw,hu,x=>by
  have hj:j<l.length:=by omega
  have hc:=hd (l.getD j 0) (by rw[List.getD_eq_getElem?_getD,List.getElem?_eq_getElem hj];exact List.getElem_mem hj)
  have b1:=pC (hd.take j)
  have b2:(l.take j).length=j:=by simp;omega
  rw[b2,←hw,←hu] at b1
  have b3:unit*10≤10000000000000000000:=by rw[hu,←Nat.pow_succ];exact aeh o!
  have ec:IntKind.u64.wrap (IntKind.u8.wrap (((l.getD j 0:Nat):Int) - 48))=((l.getD j 0 - 48:Nat):Int):=by
   rw[acC _ o! o!,qn _ o! o!];omega
  have q1:=dg ((j:Int)<(n:Int))
  obtain ⟨p2,q3,yX,vp⟩:=ha.j8 (j:Int) (show j<l.length by omega)
  have u6:=acH 54 false true word 10
  have u7:aI env .add 54 false false (some (ae (word*10))) (some (aa (IntKind.u64.wrap (IntKind.u8.wrap (((l.getD j 0:Nat):Int) - 48)))))=some (ae ((word*10)+(l.getD j 0 - 48))):=Bw (a:=(word*10)) (b:=(l.getD j 0 - 48)) rfl ec o!
  have u8:=acH 54 false true unit 10
  have w9:=fS ((j:Int)+1)
  have ev:=vG (d+3) mE (w0::(x 1)::w2::w3::w4::(ae word)::(ae unit)::rx x 7 11 (a::(ag n)::(ag j)::rx x 21 21 [])) h ds rc .normal h (VV (bh 3 false false .i64 (j:Int) (n:Int))<|BB q1<|VV yX<|MM vp<|CN 2<|VV u6<|CN 3<|VV u7<|CC<|VV u8<|CN 2<|VV (iI 3 false true w9)<|CC<|ZZ) k!
  exact bO ev k! (tE hn ha hd hl k (j+1) (word*10+(l.getD j 0 - 48)) (unit*10) o! (by rw[tC hj,yA,hw]) (by rw[hu,Nat.pow_succ]))
theorem BF.has {h0 h h':ah} {z:AV} {l:List Nat} (o:BF h0 h z l) (a:Has h h'):BF h0 h' z l:=o.imp id fun ⟨hn,p,op,e,h1,g⟩=>⟨hn,p,op,e,h1,a _ _ g⟩
def cL (s:List UInt8):List Nat:=s.map UInt8.toNat
theorem fM (s:List UInt8):(cL s).length=s.length:=by simp [cL]
theorem BH (s:List UInt8) (n:Nat):cL (s.take n)=(cL s).take n:=by simp [cL,List.map_take]
theorem N7 (s:List UInt8) (n:Nat):cL (s.drop n)=(cL s).drop n:=by simp [cL,List.map_drop]
theorem tF {d:Nat} {h0:ah} {ds:List cC} {rc:RC} {w2:AV} (y0:Tidy h0):∀(q:Nat) (s:List UInt8) (h:ah) (z:AV) (l:List Nat),s.length≤19*q→q<100000000→jy (cL s)→BF h0 h z l→Words l→Grow h0 h→l.length+q<536870912→∀x:Nat→AV,
 ∃(zz:AV) (h':ah),(∃y:Nat→AV,Ev env (aQ (d+3)) (.loop jI) ⟨((AV.str s)::(x 1)::w2::z::rx x 4 38 []),h,ds,rc⟩ (.exit 0) ⟨((AV.str [])::(y 1)::w2::zz::rx y 4 38 []),h',ds,rc⟩)∧∃l',BF h0 h' zz l'∧Words l'∧Grow h0 h'∧l'.length≤l.length+q∧ay l'=ay l*10^s.length+bJ (cL s)
 | 0,s,h,z,l,hs,hq,hd,oz,wl,g0,hl,x=>by
  obtain rfl:s=[]:=List.length_eq_zero_iff.1 o!
  have aw:=g0.y
  have ev:=vG (d+3) jI ((AV.str [])::(x 1)::w2::z::rx x 4 38 []) h ds rc (.exit 0) h (CN 3<|FF<|ZZ) k!
  exact ⟨z,h,cT (Ev.out ev) k!,l,oz,wl,g0,by omega,by simp [cL,bJ]⟩
 | q+1,s,h,z,l,hs,hq,hd,oz,wl,g0,hl,x=>by
  have aw:=g0.y
  have hn0:=g0.n
  by_cases hs0:s=[]
  · subst hs0
    have ev:=vG (d+3) jI ((AV.str [])::(x 1)::w2::z::rx x 4 38 []) h ds rc (.exit 0) h (CN 3<|FF<|ZZ) k!
    exact ⟨z,h,cT (Ev.out ev) k!,l,oz,wl,g0,by omega,by simp [cL,bJ]⟩
  have Kb:0<s.length:=List.length_pos_iff.2 hs0
  have ah9:(if ((List.length s:Nat):Int)<19 then ((List.length s:Nat):Int) else 19)=((min 19 (List.length s):Nat):Int):=by split<;>omega
  have htl:(List.take (min 19 (List.length s)) s).length=min 19 s.length:=by simp
  have Ih:List.take (min 19 (List.length s)) s≠ []:=fun e=>by rw[e] at htl;simp at htl;omega
  have oW:=(BH s (min 19 s.length))▸hd.take (min 19 s.length)
  have blt:=pC oW
  have bl:=fM (List.take (min 19 (List.length s)) s)
  rw[bl,htl] at blt
  have p19:=aeh (j:=min 19 s.length) o!
  have hle:=K6 l (10^(cL (List.take (min 19 (List.length s)) s)).length) (bJ (cL (List.take (min 19 (List.length s)) s)))
  have am8:10^(cL (List.take (min 19 (List.length s)) s)).length≤10000000000000000000:=by rw[bl,htl];exact p19
  have q1:=dg (0<((List.length s:Nat):Int))
  have sl2:aZ env 9 (AV.str s) (none) (some (af (if ((List.length s:Nat):Int)<19 then ((List.length s:Nat):Int) else 19))) (none)=some (AV.str (List.take (min 19 (List.length s)) s)):=tk k! ah9 (by first | omega | (simp;omega))
  obtain ⟨h3,gn,bt,ky,eb,bC⟩:=de aw (ar.cells (List.map (fun b=>AV.int .u8 b.toNat) (List.take (min 19 (List.length s)) s)) 5 false)
  have aX:Has h h3:=bC
  have na:=N6 (show List.length (List.take (min 19 (List.length s)) s)<2^60 by omega) eb
  rw[decide_eq_true Ih] at na
  obtain ⟨yl4,af4⟩:=tE (d:=d) (ds:=ds) (rc:=rc) (w0:= .str s) (w2:=w2) (w3:=z) (w4:=(af (if ((List.length s:Nat):Int)<19 then ((List.length s:Nat):Int) else 19))) (bl.symm) na oW o! (cL (List.take (min 19 (List.length s)) s)).length 0 0 1 o! (by simp [bJ]) rfl (fun k_=>(((AV.str s)::(x 1)::w2::z::(af (if ((List.length s:Nat):Int)<19 then ((List.length s:Nat):Int) else 19))::(aa 0)::(aa 1)::(x 7)::(x 8)::(AV.str s)::(ag (List.length s))::(aj (decide (0<((List.length s:Nat):Int))))::(AV.str s)::(ag (List.length s))::(af (if ((List.length s:Nat):Int)<19 then ((List.length s:Nat):Int) else 19))::(AV.str s)::(af (if ((List.length s:Nat):Int)<19 then ((List.length s:Nat):Int) else 19))::(AV.str (List.take (min 19 (List.length s)) s))::(AV.slice h.nx 0 (List.length (List.take (min 19 (List.length s)) s)) (List.length (List.take (min 19 (List.length s)) s)) true)::(ag (List.length (List.take (min 19 (List.length s)) s)))::(af 0)::rx x 21 21 []):List AV).getD k_ aB)
  have G1:Grow h0 h3:=g0.trans ⟨bt,aX,by omega⟩
  obtain ⟨z2,h5,pD,G2,W3⟩:=wS (d:=d+1) (m:=(10^(cL (List.take (min 19 (List.length s)) s)).length)) (a:=(bJ (cL (List.take (min 19 (List.length s)) s)))) (oz.has aX) wl o! o! o! G1 y0
  have fA:=G2.y
  have sl6:aZ env 9 (AV.str s) (some (af (if ((List.length s:Nat):Int)<19 then ((List.length s:Nat):Int) else 19))) (none) (none)=some (AV.str (List.drop (min 19 (List.length s)) s)):=ln k! ah9 (by first | omega | (simp;omega))
  have ev:=vG (d+3) jI ((AV.str s)::(x 1)::w2::z::rx x 4 38 []) h ds rc .normal h5 (CN 2<|VV (bM 3 false true .i64 ((List.length s:Nat):Int) 0)<|BB q1<|CN 8<|QQ sl2<|PP (show zD env h 9 97 (some (AV.str (List.take (min 19 (List.length s)) s)))=some ((AV.slice h.nx 0 (List.length (List.take (min 19 (List.length s)) s)) (List.length (List.take (min 19 (List.length s)) s)) true),h3) from KL (e:=5) k! k! k! k! gn rfl)<|CN 2<|LL (show Ev env (aQ (d+3)) (.loop mE) ⟨((AV.str s)::(x 1)::w2::z::(af (if ((List.length s:Nat):Int)<19 then ((List.length s:Nat):Int) else 19))::(aa 0)::(aa 1)::(x 7)::(x 8)::(AV.str s)::(ag (List.length s))::(aj (decide (0<((List.length s:Nat):Int))))::(AV.str s)::(ag (List.length s))::(af (if ((List.length s:Nat):Int)<19 then ((List.length s:Nat):Int) else 19))::(AV.str s)::(af (if ((List.length s:Nat):Int)<19 then ((List.length s:Nat):Int) else 19))::(AV.str (List.take (min 19 (List.length s)) s))::(AV.slice h.nx 0 (List.length (List.take (min 19 (List.length s)) s)) (List.length (List.take (min 19 (List.length s)) s)) true)::(ag (List.length (List.take (min 19 (List.length s)) s)))::(af 0)::rx x 21 21 []),h3,ds,rc⟩ (.exit 2) ⟨((AV.str s)::(yl4 1)::w2::z::(af (if ((List.length s:Nat):Int)<19 then ((List.length s:Nat):Int) else 19))::(ae (bJ (cL (List.take (min 19 (List.length s)) s))))::(ae (10^(cL (List.take (min 19 (List.length s)) s)).length))::rx yl4 7 35 []),h3,ds,rc⟩ from af4)<|CN 3<|EE pD<|CN 3<|QQ sl6<|CC<|ZZ) k!
  refine bp (tin:=fun x=>((AV.str (List.drop (min 19 (List.length s)) s))::(x 1)::w2::z2::rx x 4 38 [])) ev k! fun x=>?_
  obtain ⟨zz,h',ev',l',a1,a2,a3,a4,a5⟩:=tF y0 q (List.drop (min 19 (List.length s)) s) _ _ _ (by simp;omega) o! (by rw[N7];exact hd.drop _) W3 (Dd wl o! o!) G2 o! x
  refine ⟨zz,h',ev',l',a1,a2,a3,by omega,?_⟩
  rw[a5,K7,bl,htl,Nat.add_mul,Nat.mul_assoc,←Nat.pow_add,List.length_drop,show min 19 s.length+(s.length - min 19 s.length)=s.length by omega,Nat.add_assoc]
  congr 1
  have e:=Eb (cL (List.take (min 19 (List.length s)) s)) (cL (List.drop (min 19 (List.length s)) s))
  rw[fM,List.length_drop,show cL (List.take (min 19 (List.length s)) s)++cL (List.drop (min 19 (List.length s)) s)=cL s by rw[BH,N7,List.take_append_drop]] at e
  exact e.symm
theorem dk {d:Nat} {h:ah} {s:List UInt8} (hs:s.length<1000000) (hd:jy (cL s)) (aw:Tidy h):
 ∃cs hk,aQ (d+4) (.fn 18) [.str s] h= .ret (.agg cs) hk∧Grow h hk∧gY h hk cs false (aq (bJ (cL s))):=by
 obtain ⟨h1,aO,aK,bm,aC,ck⟩:=de aw (ar.cells (au false 0 0 0 0 bE 0) 60 false)
 have aD:Has h h1:=ck
 have Ga:Grow h1 h1:=Grow.refl aK
 obtain ⟨zb,h3,⟨yl2,RZ⟩,lb,ozb,wb,Gb,leb,vb⟩:=tF (d:=d) (ds:=[]) (rc:= .no) aK (s.length) s h1 .ax [] o! o! hd (.inl ⟨rfl,rfl⟩) Words.nil Ga (by simp;omega) (fun k_=>(((AV.str s)::aB::(AV.ptr h.nx 0)::bE::aV 38):List AV).getD k_ aB)
 have bt:=Gb.y
 have uL:=Gb.n
 simp only[List.length_nil] at leb
 have aX:=aD.trans Gb.a
 obtain ⟨cs,h4,RW,Dc,zv⟩:=tq (d:=d) (v:=bJ (cL s)) (ozb.aA o!) wb (by rw[vb];simp [ay]) bt o!
 have gk:=Dc.y
 have VL:=Dc.n
 obtain ⟨w0,w1,w2,w3,far,rfl,sc,hc,hf⟩:=id zv
 have iy:=aX.trans Dc.a
 have sc6:AV.scalar far=true:=sc
 obtain ⟨h5,pz,fA,wM,lu,iO⟩:=b9 (t:=60) (n:=7) (i:=h.nx) (L:=[(aj false),(aa w0),(aa w1),(aa w2),(aa w3),far,(ag ((aq (bJ (cL s))).length))]) gk (Dc.a _ _ (Gb.a _ _ aC)) k! rfl rfl z!
 have ep:=Has.ak iy iO aw o!
 have ev:=pk (d+3) kU ((AV.str s)::aV 41) h .ret h5 (NN aO (fun i=>(AV.ptr i 0))<|CC<|LL (show Ev env (aQ (d+3)) (.loop jI) ⟨((AV.str s)::aB::(AV.ptr h.nx 0)::bE::aV 38),h1,[],.no⟩ (.exit 0) ⟨((AV.str [])::(yl2 1)::(AV.ptr h.nx 0)::zb::rx yl2 4 38 []),h3,[],.no⟩ from RZ)<|CC<|EE RW<|SS pz<|ZZ) k!
 have GB:=(zv.kept iO o! o!)
 exact ⟨_,aU rfl (bn (a:=2) (t:=60) Tryz.func18 K8 k! (.inr rfl) ev k! (aN lu k!)) aw ⟨fA,ep,by omega⟩ (P:=fun hh=>gY h hh _ _ _) (GB.mono o!) fun v=>GB.fit o! v⟩
end Go.Proofs.aF
