import Derived.Shelf.SlSortCmp.WholeK
import Derived.Shelf.SlSortCmp.NoneTotal
import Derived.Sort.AssemblyPlain
import Derived.Test.YtfllahfbmaafcaaA7
set_option linter.unusedVariables false
set_option linter.unusedSimpArgs false
section
set_option linter.unusedVariables false
namespace Go.Ab
open Go.WideElems Go.RowKit Go.Proofs Go.Shelf
variable {E:Env}
def vE (x:Int×Int):List Value:=[.int .i64 x.1,.int .i64 x.2]
def uC (x y:Int×Int):Int:=Lib.compareInt x.1 y.1
def jW (L:List (Int×Int)):List (Int×Int):=(Sort.pdq (ltOf uC) L.toArray 0 L.toArray.size (Lib.bitLen L.toArray.size) true true).toList
def lA:List (Int×Int)→List AV
 | []=> []
 | x::l=> .int .i64 x.1:: .int .i64 x.2::lA l
def nC:List (Int×Int)→List Value
 | []=> []
 | x::l=> .int .i64 x.1:: .int .i64 x.2::nC l
def vF:List AV→Option (List (Int×Int))
 | []=>some []
 | .int .i64 a:: .int .i64 b::l=>match vF l with
   | some r=>some ((a,b)::r)
   | none=>none
 | _=>none
theorem EG:∀L:List (Int×Int),vF (lA L)=some L
 | []=>rfl
 | x::l=>by
   show (match vF (lA l) with | some r=>some ((x.1,x.2)::r) | none=>none)=_
   rw[EG l]
theorem Cj:∀{cs:List AV} {L:List (Int×Int)},vF cs=some L→cs=lA L
 | [],L,h=>by cases h;rfl
 | .int .i64 a:: .int .i64 b::cs,L,h=>by
   simp only[vF] at h
   split at h
   · rename_i r hr
     cases h
     rw[Cj hr];rfl
   · cases h
theorem kM:∀L:List (Int×Int),(lA L).length=L.length*2
 | []=>rfl
 | x::l=>by simp only[lA,List.length_cons,kM l];omega
theorem uf:∀L:List (Int×Int),(nC L).length=L.length*2
 | []=>rfl
 | x::l=>by simp only[nC,List.length_cons,uf l];omega
theorem EH:∀(L:List (Int×Int)) (j:Nat),j<L.length*2→(lA L)[j]? =some (.int .i64 (if j%2=0 then L[j/2]!.1 else L[j/2]!.2))
 | [],j,h=>by simp at h
 | x::l,0,h=>rfl
 | x::l,1,h=>rfl
 | x::l,j+2,h=>by
   show (lA l)[j]? =_
   rw[EH l j (by simp at h;omega),Nat.add_mod_right,Nat.add_div_right j (by decide)]
   rfl
theorem EI:∀(L:List (Int×Int)) (j:Nat),j<L.length*2→(nC L)[j]? =some (.int .i64 (if j%2=0 then L[j/2]!.1 else L[j/2]!.2))
 | [],j,h=>by simp at h
 | x::l,0,h=>rfl
 | x::l,1,h=>rfl
 | x::l,j+2,h=>by
   show (nC l)[j]? =_
   rw[EI l j (by simp at h;omega),Nat.add_mod_right,Nat.add_div_right j (by decide)]
   rfl
theorem Ck (φ:Ph):∀L:List (Int×Int),LR φ (lA L) (nC L)
 | []=>LR.nil φ
 | x::l=>LR.cons (.int _ _) (LR.cons (.int _ _) (Ck φ l))
theorem re:∀L:List (Int×Int),(lA L).all AV.scalar=true
 | []=>rfl
 | x::l=>by show (true&&(true&&(lA l).all AV.scalar))=true;rw[re l];rfl
theorem EJ (d:Array (Int×Int)) (j:Nat) (h:j<d.size*2):(Sort.flatK vE 2 d)[j]! = .int .i64 (if j%2=0 then d.toList[j/2]!.1 else d.toList[j/2]!.2):=by
 rw[Sort.get_flatK vE 2 d j h]
 have e:d.toList[j/2]! =d[j/2]! :=by
  rw[getElem!_pos d (j/2) (by omega),getElem!_pos d.toList (j/2) (by rw[Array.length_toList];omega)];simp
 rw[e]
 rcases Nat.mod_two_eq_zero_or_one j with q | q<;>rw[q]<;>rfl
theorem sW (L:List (Int×Int)):(jW L).Perm L∧(jW L).length=L.length∧∀i j,i<j→j<L.length→(jW L)[i]!.1≤(jW L)[j]!.1:=by
 have lt:∀x y:Int×Int,ltOf uC x y=decide (x.1<y.1):=fun x y=>by
  unfold ltOf uC Lib.compareInt
  by_cases h1:x.1<y.1
  · simp [h1]
  · by_cases h2:y.1<x.1<;>simp [h1,h2]
 have hO:Sort.SWO (ltOf uC):=by
  refine ⟨fun x=>by rw[lt];simp,fun x y z h1 h2=>?_,fun x y z h1 h2=>?_⟩<;>rw[lt] at * <;>simp at * <;>omega
 have hp:=Sort.pdq_sorts (ltOf uC) hO L.toArray 0 L.toArray.size (Lib.bitLen L.toArray.size) true true (Nat.zero_le _) (Nat.le_refl _) (Or.inl rfl)
 show (Array.toList (Sort.pdq (ltOf uC) L.toArray 0 L.toArray.size (Lib.bitLen L.toArray.size) true true)).Perm L∧(Array.toList (Sort.pdq (ltOf uC) L.toArray 0 L.toArray.size (Lib.bitLen L.toArray.size) true true)).length=L.length∧∀i j,i<j→j<L.length→(Array.toList (Sort.pdq (ltOf uC) L.toArray 0 L.toArray.size (Lib.bitLen L.toArray.size) true true))[i]!.1≤(Array.toList (Sort.pdq (ltOf uC) L.toArray 0 L.toArray.size (Lib.bitLen L.toArray.size) true true))[j]!.1
 generalize Sort.pdq (ltOf uC) L.toArray 0 L.toArray.size (Lib.bitLen L.toArray.size) true true=D at hp
 obtain ⟨⟨h1,_,h3⟩,h4⟩:=hp
 have hs:D.size=L.length:=by simpa using h1
 refine ⟨?_,by rw[Array.length_toList,hs],fun i j hij hj=>?_⟩
 · have e1:(D.extract 0 L.toArray.size).toList=D.toList:=by rw[←h1];simp
   have e2:(L.toArray.extract 0 L.toArray.size).toList=L:=by simp
   rw[e1,e2] at h3
   exact h3
 · have:=h4 i j (Nat.zero_le _) hij (by simpa using hj)
   rw[lt] at this
   have e:∀k,k<L.length→D.toList[k]! =D[k]! :=fun k hk=>by
    rw[getElem!_pos D k (by omega),getElem!_pos D.toList k (by rw[Array.length_toList];omega)];simp
   rw[e i (by omega),e j hj]
   have:=of_decide_eq_false this
   omega
theorem ahh:Sort.SWO (ltOf uC):=by
 have lt:∀x y:Int×Int,ltOf uC x y=decide (x.1<y.1):=fun x y=>by
  unfold ltOf uC Lib.compareInt
  by_cases h1:x.1<y.1
  · simp [h1]
  · by_cases h2:y.1<x.1<;>simp [h1,h2]
 refine ⟨fun x=>by rw[lt];simp,fun x y z h1 h2=>?_,fun x y z h1 h2=>?_⟩<;>rw[lt] at * <;>simp at * <;>omega
noncomputable def Cl (g:Nat) (args:List AV) (h:au):Option (AV×au):=match args with
 | [.aQ,.func g' [] []]=>if g'=g then some (.tuple [],h) else none
 | [.slice i 0 n c _,.func g' [] []]=>if g'=g then (match h.get i with
   | some (.cells cs t false)=>(match vF cs with
     | some L=>if L.length=n∧n≤c∧n<1000000 then some (.tuple [],h.put i (some (.cells (lA (jW L)) t false))) else none
     | none=>none)
   | _=>none) else none
 | _=>none
structure NR (P:Program) (f g:FuncId):Prop where
 nothing:∀(p:Option Addr) (cap:Nat) (fv:Value) (w:World),Calls P f #[.slice p 0 cap,fv] w fun e w'=>e= .returned (.tuple #[])∧w'=w
 row:∀(dY off cap:Nat) (d:Array (Int×Int)) (w:World),Sort.HoldsK vE 2 w dY off d→dY<w.heap.size→d.size<1000000→Calls P f #[.slice (some ⟨dY,off,none⟩) d.size cap,.func (.func g) #[] #[]] w fun e w'=>
  e= .returned (.tuple #[])∧∃n os,w'=sortWorldK vE 2 w dY off n (Sort.pdq (ltOf uC) d 0 d.size (Lib.bitLen d.size) true true) os
theorem Jr {F G:Array Value} (h:G.size=F.size):Sort.setMany F 0 G.toList=G:=by
 apply Array.ext
 · rw[Sort.size_setMany,h]
 · intro i h1 h2
   have e:=Sort.get_setMany G.toList 0 F i (by omega)
   rw[if_pos ⟨Nat.zero_le _,by simpa using h2⟩,Nat.sub_zero] at e
   rw[getElem!_pos _ i h1] at e
   rw[e]
   simp [h2]
theorem SK {f g:FuncId} (dg:∀args w,(callFunc f args).run E.P w= .ok (.enter f args) w) (hc:NR E.P f g) (args:List AV) (h:au) (v:AV) (h':au) (e:Cl g args h=some (v,h')):kL E f args h v h':=by
 intro φ w vs ok hl
 refine ⟨dg _ _,?_⟩
 unfold Cl at e
 split at e
 · rename_i g'
   split at e
   · obtain ⟨rfl,rfl⟩:=Prod.mk.inj (Option.some.inj e)
     obtain ⟨x,t2,rfl,hx,hl⟩:=hl.cr
     obtain ⟨y,t3,rfl,hy,hl⟩:=hl.cr
     rw[hl.gC]
     cases hx with
     | aQ=>
     intro iw
     obtain ⟨en,w',fr,⟨rfl,rfl⟩,uz,Dz,Rb⟩:=hc.nothing none 0 y w iw
     exact ⟨φ,_,_,fr,VR.tuple' (LR.nil φ),ok,Fr.refl φ h _,uz,Dz,Rb⟩
   · cases e
 · rename_i i n c op g'
   split at e
   · rename_i XJ
     subst XJ
     split at e
     · rename_i cs t hg
       split at e
       · rename_i L hL
         split at e
         · rename_i K0
           obtain ⟨hn,QH,hn6⟩:=K0
           obtain ⟨rfl,rfl⟩:=Prod.mk.inj (Option.some.inj e)
           obtain ⟨x,t2,rfl,hx,hl⟩:=hl.cr
           obtain ⟨y,t3,rfl,hy,hl⟩:=hl.cr
           rw[hl.gC]
           obtain ⟨a',b',rfl,la,lb⟩:=hy.wj
           have ea:a'= #[]:=by have:=la.gC;simpa using this
           have eb:b'= #[]:=by have:=lb.gC;simpa using this
           subst ea;subst eb
           have hcs:=Cj hL
           subst hcs
           subst hn
           cases hx with
           | @slice _ l _ _ _ _ hφ=>
           obtain ⟨C,e',lo,hi,hwc,hC⟩:=ok.live i _ l hg hφ
           have FN:=hC.size
           have hle:=kM L
           have hblk:l.dY<w.heap.size:=by
            rcases Nat.lt_or_ge l.dY w.heap.size with a | a
            · exact a
            · rw[Array.getElem?_eq_none a] at hwc;cases hwc
           have hH:Sort.HoldsK vE 2 w l.dY (l.off+0) L.toArray:=fun j hj=>by
            rw[Sort.size_flatK] at hj
            rw[EJ _ j hj]
            have LF:j<L.length*2:=by simpa using hj
            obtain ⟨y,hy,hyv⟩:=hC.val j _ (EH L j LF)
            cases hyv with
            | int=>
            refine ⟨?_,?_⟩
            · simp only[World.cell?,hwc,Nat.add_zero,id]
              exact hy
            · rw[frozen_of_heap hwc]
              have:=hC.free rfl (l.off+j) (by omega) (by omega)
              simp only[Nat.add_zero,Bool.and_eq_false_iff,decide_eq_false_iff_not]
              omega
           have QE:=sW L
           have key:=hc.row l.dY (l.off+0) (gJ op c l.iy) L.toArray w hH hblk (by simpa using hn6)
           intro iw
           obtain ⟨en,w',fr,⟨rfl,n,os,rfl⟩,uz,Dz,Rb⟩:=key iw
           let d':=Sort.pdq (ltOf uC) L.toArray 0 L.toArray.size (Lib.bitLen L.toArray.size) true true
           have KA:d'.size=L.toArray.size:=by have:=QE.2.1;rw[List.size_toArray];exact this
           have Ij:(Sort.flatK vE 2 d').toList=nC (jW L):=by
            apply List.ext_getElem?
            intro j
            have z1:(Sort.flatK vE 2 d').size=L.length*2:=by rw[Sort.size_flatK,KA];simp
            have z2:(nC (jW L)).length=L.length*2:=by rw[uf,QE.2.1]
            by_cases hj:j<L.length*2
            · have e1:=EJ d' j (by rw[KA];simpa using hj)
              rw[getElem!_pos _ j (by rw[z1];exact hj)] at e1
              rw[EI _ j (by rw[QE.2.1];exact hj),Array.getElem?_toList,Array.getElem?_eq_getElem (by rw[z1];exact hj),e1]
              rfl
            · rw[List.getElem?_eq_none (by simp only[Array.length_toList,z1];omega),List.getElem?_eq_none (by omega)]
           obtain ⟨w2,iP,jV,nV⟩:=tS ok hg hφ (Ck φ (jW L)) 0 (by rw[kM,kM,QE.2.1];omega) (re _)
           have fU:=pB (P:=E.P) hwc (l.off+0) (nC (jW L)) (by rw[uf,QE.2.1];omega) (fun k h1 h2=>hC.free rfl k (by omega) (by rw[uf,QE.2.1] at h2;omega)) (vq (Ck φ (jW L)) (re _))
           rw[iP] at fU
           obtain rfl:w2=w.setCells l.dY (l.off+0) (nC (jW L)):=by injection fU
           have pX:setFrom (lA L) 0 (lA (jW L))=lA (jW L):=by
            apply List.ext_getElem?
            intro k
            rw[eu,kM,kM,QE.2.1,Nat.zero_add,Nat.sub_zero]
            by_cases hk:k<L.length*2
            · rw[if_pos ⟨Nat.zero_le _,hk,hk⟩]
            · rw[if_neg (by omega),List.getElem?_eq_none (by rw[kM];omega),List.getElem?_eq_none (by rw[kM,QE.2.1];omega)]
           rw[pX] at jV nV
           have ahi:Sort.putRowK vE 2 w l.dY (l.off+0) d'=w.setCells l.dY (l.off+0) (nC (jW L)):=by
            have e1:w.setCells l.dY (l.off+0+0) (Sort.flatK vE 2 d').toList=Sort.putRow id w l.dY (l.off+0) (Sort.setMany (Sort.flatK vE 2 L.toArray) 0 (Sort.flatK vE 2 d').toList):=by
             conv=>lhs;rw[←Sort.putRow_self id w l.dY (l.off+0) _ hH]
             exact Sort.setCells_putRow _ _ _ _ _ _ (by simp [KA])
            rw[Jr (by simp [KA]),Ij] at e1
            exact e1.symm
           have ahj:Below (w.setCells l.dY (l.off+0) (nC (jW L))).heap.size (w.setCells l.dY (l.off+0) (nC (jW L))) (sortWorldK vE 2 w l.dY (l.off+0) n d' os):=by
            have ew:sortWorldK vE 2 w l.dY (l.off+0) n d' os=Sort.grow (Sort.ahead (w.setCells l.dY (l.off+0) (nC (jW L))) n) os:=by
             unfold sortWorldK
             rw[←ahi];rfl
            rw[ew]
            refine ⟨rfl,rfl,rfl,?_,fun k hk=>?_⟩
            · show _≤((w.setCells l.dY (l.off+0) (nC (jW L))).heap++os).size
              rw[Array.size_append];omega
            · show ((w.setCells l.dY (l.off+0) (nC (jW L))).heap++os)[k]? =_
              rw[Array.getElem?_append_left hk]
           have SM:=jV.later ahj
           exact ⟨φ,_,_,fr,VR.tuple' (LR.nil φ),SM.1,nV.trans SM.2,uz,Dz,Rb⟩
         · cases e
       · cases e
     · cases e
   · cases e
 · cases e
end Go.Ab
end
section
namespace Go.Ab
variable {E:Env} {M0:Fa.GH}
theorem Cm {call:bw} {ts:List AV} {h h1 h2 h3:au} {ds:List od} {f:Operand} {ps:Array Tmp} {aS bd:Code} {g:FuncId} {first adX:List AV} {v:AV} {e:hZ} {st:LoopState} {hQ:Option Code} {jH:List AV} {qy:List Tmp} {ux Wj:Code} {Wl:Nat}
 (hf:eh E ts f=some (.func g first adX)) (hd:h.new .pz=some h1) (hl:h1.new (.loop .ready none ts ps.toList aS bd h.nx)=some h2)
 (hc:call (.fn g) (first++[.cM h1.nx]++adX) h2= .ret v h3) (hg:h3.get h1.nx=some (.loop st hQ jH qy ux Wj Wl)) (iP:st≠ .busy) (hj:Ia hQ=some e):
 Ev E call (.rangeFunc f ps aS bd) ⟨ts,h,ds,.no⟩ e ⟨ts,h3.put h1.nx (some (.loop .exhausted hQ jH qy ux Wj Wl)),.rQ h.nx::ds,.no⟩:=by
 refine ⟨1,fun n hn=>?_⟩
 obtain ⟨k,rfl⟩:∃k,n=k+1:=⟨n - 1,by omega⟩
 show lh E call f ps aS bd ⟨ts,h,ds,.no⟩=_
 unfold lh M5
 simp only[hf,hd,hl,hc,hg,hj]
theorem GQ {d l:Nat} {args:List AV} {h:au} {st:LoopState} {pd:Option Code} {ts:List AV} {ps:List Tmp} {aS bd:Code} {dn:Nat} {s1 s2:St} {pd1:Option Code} {ts1:List AV} {qd:List Tmp} {rW bd1:Code} {dn1:Nat} {e:hZ} {jump:Option Code} {st2:LoopState} {pd2:Option Code} {VY:List AV} {Q0:List Tmp} {QC VZ:Code} {V0:Nat}
 (hg:h.get l=some (.loop st pd ts ps aS bd dn)) (hn:args.length=ps.length)
 (ha:Ev E (eO E M0 d) aS ⟨(ps.zip args).foldl (fun ts x=>ts.set x.1 x.2) ts,h,[],.pP l⟩ .normal s1) (h1:s1.h.get l=some (.loop .ready pd1 ts1 qd rW bd1 dn1))
 (hb:Ev E (eO E M0 d) bd {s1 with h:=s1.h.put l (some (.loop .busy pd1 ts1 qd rW bd1 dn1))} e s2)
 (he:(e= .normal∧jump=none)∨(e= .ret∧jump=some .ret)∨∃id,e= .exit id∧jump=some (.exit id))
 (h2:s2.h.get l=some (.loop st2 pd2 VY Q0 QC VZ V0)):
 eO E M0 (d+1) (.vk l) args h= .ret (.bool jump.isNone) (s2.h.put l (some (.loop (if jump.isNone then .ready else .done) jump VY Q0 QC VZ V0))):=by
 obtain ⟨n1,k1⟩:=ha
 obtain ⟨n2,k2⟩:=hb
 refine Pm ⟨n1+n2,fun n hle=>?_⟩
 unfold qF
 simp only[hg,hn,if_true,k1 n (by omega),h1,k2 n (by omega)]
 rcases he with ⟨rfl,rfl⟩ | ⟨rfl,rfl⟩ | ⟨id,rfl,rfl⟩<;>simp [AN,h2]
noncomputable def shut:List Nat→au→au
 | [],h=>h
 | r::L,h=>shut L (h.put r none)
theorem kl:∀{L:List Nat} {h:au} {k:Nat},k ∉ L→(shut L h).get k=h.get k
 | [],_,_,_=>rfl
 | r::L,h,k,hk=>by
   rw[shut,kl (fun c=>hk (List.mem_cons_of_mem _ c)),au.bA (fun e=>hk (by rw[e];exact List.mem_cons_self ..))]
theorem nI:∀{L:List Nat} {h:au},(shut L h).nx=h.nx
 | [],_=>rfl
 | r::L,h=>by rw[shut,nI];rfl
theorem Ae {cd:FuncId→List AV→au→RC→Option (au×RC)}:∀{L:List Nat} {h:au},L.Nodup→(∀r∈L,h.get r=some .pz)→cJ cd (L.map .rQ) none h=some (none,shut L h)
 | [],_,_,_=>rfl
 | r::L,h,hn,hg=>by
   rw[List.map_cons,cJ,hg r (List.mem_cons_self ..)]
   have hr:=(List.nodup_cons.1 hn).1
   exact Ae (List.nodup_cons.1 hn).2 fun q hq=>by
    rw[au.bA (fun e=>hr (by rw[e];exact hq))];exact hg q (List.mem_cons_of_mem _ hq)
theorem GR {call:bw} {f:FuncId} {fn:Func} {c:Code} {args Zs ts:List AV} {h h':au} {x:hZ} {v:AV} {L:List Nat} (hf:E.P.funcs[f]? =some fn) (hb:fn.body=some c) (ht:args++List.replicate (fn.ntmps - args.length) AV.undef=Zs) (hx:x= .normal∨x= .ret)
 (e:Ev E call c ⟨Zs,h,[],.no⟩ x ⟨ts,h',L.map .rQ,.no⟩) (hn:L.Nodup) (hg:∀r∈L,h'.get r=some .pz) (hr:(jM E (shut L h') ts fn.results.toList).map fY=some v):sP E call f args h v (shut L h'):=by
 subst ht
 cases hv:jM E (shut L h') ts fn.results.toList with
 | none=>rw[hv] at hr;cases hr
 | some vs=>
   rw[hv] at hr
   obtain rfl:fY vs=v:=Option.some.inj hr
   obtain ⟨n0,e⟩:=e
   refine ⟨n0,fun n hle=>?_⟩
   have V3:mD E call n fn c args h .no= .ok x ⟨ts,h',L.map .rQ,.no⟩:=e n hle
   unfold w6
   simp only[hf,hb,V3]
   rcases hx with rfl | rfl<;>simp only[qY,Ae hn hg,hv]
end Go.Ab
end
