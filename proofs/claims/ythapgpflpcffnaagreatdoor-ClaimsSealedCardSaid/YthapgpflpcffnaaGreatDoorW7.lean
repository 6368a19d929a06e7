import Derived.Test.YthapgpflpcffnaaGreatDoorW5
import Derived.Test.YthapgpflpcffnaaGreatDoorW6
import Derived.Test.YthapgpflpcffnaaGreatDoorW0
import Derived.Test.YthapgpflpcffnaaGreatDoorA7
import Derived.Test.YthapgpflpcffnaaGreatDoorEnv
namespace Go.Proofs.aP
open Go.Proofs Ab
noncomputable section
set_option maxRecDepth 100000
set_option maxHeartbeats 4000000
set_option linter.unusedVariables false
set_option linter.unusedSimpArgs false
def o3 (o:List Fact) (k:Nat) (w:List (List UInt8)):List Fact:=(((o.set k ({(o.g k) with kind:=(w.g 0)}:Fact)).set k ({((o.set k ({(o.g k) with kind:=(w.g 0)}:Fact)).g k) with item:=(w.g 1)}:Fact)).set k ({(((o.set k ({(o.g k) with kind:=(w.g 0)}:Fact)).set k ({((o.set k ({(o.g k) with kind:=(w.g 0)}:Fact)).g k) with item:=(w.g 1)}:Fact)).g k) with ag:=(w.g 2)}:Fact))
def Pd (l:List Fact) (K P:Int) (X:List UInt8) (R:Int→List Fact):Bool:=(bif (fF l) then true else (bif (decide (((l.length:Nat):Int)=0)) then true else (bif (decide (30<((l.length:Nat):Int))) then true else (bif (!decide ((ak l).2=0)) then (bif (decide ((((ak l).1.length:Nat):Int)=0)) then true else false) else (bif (!decide ((((ak l).1.length:Nat):Int)=((l.length:Nat):Int))) then false else (bif (!decide ((aE l (ak l).1).2=0)) then false else (bif (!decide ((aE l (ak l).1).1=((l.length:Nat):Int))) then false else (bif (!decide ((ak (l.take K.toNat)).2=0)) then false else (bif (!(cd (ak (l.take K.toNat)).1 ((ak l).1.take K.toNat))) then false else (bif (decide (((ae X).g P.toNat)=122)) then (bif (!decide ((au (R 97))=0)) then false else (bif (decide ((aE (R 97) (ak l).1).2=0)) then (bif (decide ((aE (R 97) (ak l).1).1=K)) then true else false) else false)) else (bif (!decide ((au (R 122))=0)) then false else (bif (decide ((aE (R 122) (ak l).1).2=0)) then (bif (decide ((aE (R 122) (ak l).1).1=K)) then true else false) else false))))))))))))
theorem Pe (l:List Fact) (af part place:Int):aG l af part place=
 Pd l (dm af ((l.length:Nat):Int)) (dm place (((List.length (([((([]:List Fact)++l).g (dm af ((l.length:Nat):Int)).toNat).kind,((([]:List Fact)++l).g (dm af ((l.length:Nat):Int)).toNat).item,((([]:List Fact)++l).g (dm af ((l.length:Nat):Int)).toNat).ag]).g (dm part 3).toNat)):Nat):Int))
  (([((([]:List Fact)++l).g (dm af ((l.length:Nat):Int)).toNat).kind,((([]:List Fact)++l).g (dm af ((l.length:Nat):Int)).toNat).item,((([]:List Fact)++l).g (dm af ((l.length:Nat):Int)).toNat).ag]).g (dm part 3).toNat)
  (fun c=>o3 (([]:List Fact)++l) (dm af ((l.length:Nat):Int)).toNat ((w3 ((([]:List Fact)++l).g (dm af ((l.length:Nat):Int)).toNat)).set (dm part 3).toNat (ay ((ae ((w3 ((([]:List Fact)++l).g (dm af ((l.length:Nat):Int)).toNat)).g (dm part 3).toNat)).set (dm place (((List.length ((w3 ((([]:List Fact)++l).g (dm af ((l.length:Nat):Int)).toNat)).g (dm part 3).toNat)):Nat):Int)).toNat c)))):=by kernel_rfl
theorem Sv {o:List Fact} {k:Nat} (hk:k<o.length) (w:List (List UInt8)):o3 o k w=o.set k (O4 (o.g k) w):=by
 unfold o3
 have e1:=fun x=>j9 hk x
 have e2:=fun x y=>j9 (l:=o.set k x) (i:=k) (by rw[List.length_set];exact hk) y
 simp only[e1,e2,List.set_set]
 rfl
theorem FC {l:List Fact} {K P:Int} {I:Nat} {R:Int→List Fact} (hK:0<l.length→l.length≤30→0≤K∧K<((l.length:Nat):Int)) (hI:I<3) (hP:0<((w3 (l.g K.toNat)).g I).length→((w3 (l.g K.toNat)).g I).length≤16→0≤P∧P<((((w3 (l.g K.toNat)).g I).length:Nat):Int))
 (hR:K.toNat<l.length→∀c,R c=l.set K.toNat (j7 (l.g K.toNat) I P.toNat c)):Pd l K P ((w3 (l.g K.toNat)).g I) R=true:=by
 unfold Pd
 cases fF l with
 | true=>rfl
 | false=>
   rw[ao]
   by_cases n0:((l.length:Nat):Int)=0
   · rw[decide_eq_true n0];rfl
   · rw[decide_eq_false n0,ao]
     by_cases Xy:(30:Int)<((l.length:Nat):Int)
     · rw[decide_eq_true Xy];rfl
     · rw[decide_eq_false Xy,ao]
       by_cases ck:au l=0
       · have hK:=hK o! o!
         have hk:K.toNat<l.length:=by omega
         have hR:=hR hk
         have a:=du.1 ((eI.1 ck).2 K.toNat hk)
         have ln:∀j,j<3→0<((w3 (l.g K.toNat)).g j).length:=fun j hj=>by
          match j,hj with
          | 0,_=>exact List.length_pos_iff.2 (cz a.2.2.1).2
          | 1,_=>exact List.length_pos_iff.2 (cz a.2.2.2.1).2
          | 2,_=>exact List.length_pos_iff.2 (cz a.2.2.2.2.1).2
         have lu:∀j,j<3→((w3 (l.g K.toNat)).g j).length≤16:=fun j hj=>by
          match j,hj with
          | 0,_=>exact (cz a.2.2.1).1
          | 1,_=>exact (cz a.2.2.2.1).1
          | 2,_=>exact (cz a.2.2.2.2.1).1
         have hP:=hP (ln I hI) (lu I hI)
         have hp:P.toNat<((w3 (l.g K.toNat)).g I).length:=by omega
         have tl:∀c:Int,97≤c∧c≤122→(ae ((w3 (l.g K.toNat)).g I)).g P.toNat≠c→(bif (!decide ((au (R c))=0)) then false else (bif (decide ((aE (R c) (ak l).1).2=0)) then (bif (decide ((aE (R c) (ak l).1).1=K)) then true else false) else false))=true:=fun c hc bY=>by
          rw[hR,decide_eq_true (uM ck hk hI hp hc),CV ck hk hI hp hc bY]
          show (bif decide ((0:Int)=0) then (bif decide (((K.toNat:Nat):Int)=K) then true else false) else false)=true
          rw[decide_eq_true rfl,decide_eq_true o!];rfl
         have e1:(ak l).2=0:=by rw[j8 ck]
         have e2:(((ak l).1.length:Nat):Int)=((l.length:Nat):Int):=by rw[j8 ck];show (((sl l 0 l.length).length:Nat):Int)=_;rw[yP]
         rw[decide_eq_true e1,decide_eq_true e2,Bc ck,CW ck (Nat.le_of_lt hk),Ba]
         show (bif !decide ((0:Int)=0) then false else bif !decide (((l.length:Nat):Int)=((l.length:Nat):Int)) then false else bif !decide ((0:Int)=0) then false else _)=true
         rw[decide_eq_true rfl,decide_eq_true rfl]
         show (bif decide ((ae ((w3 (l.g K.toNat)).g I)).g P.toNat=122) then _ else _)=true
         by_cases z:(ae ((w3 (l.g K.toNat)).g I)).g P.toNat=122
         · rw[decide_eq_true z,ar]
           exact tl 97 ⟨by decide,by decide⟩ (by rw[z];decide)
         · rw[decide_eq_false z,ao]
           exact tl 122 ⟨by decide,by decide⟩ z
       · rw[Fs ck]
         show (bif !decide (au l=0) then (bif decide (((([]:List Int).length:Nat):Int)=0) then true else false) else _)=true
         rw[decide_eq_false ck];rfl
theorem pL (l:List Fact) (af part place:Int):aG l af part place=true:=by
 rw[Pe]
 have hn:(([]:List Fact)++l)=l:=List.nil_append _
 rw[hn]
 have h3:=modn (a:=part) (b:=3) (by decide) (by decide)
 exact FC (I:=(dm part 3).toNat) (fun h0 h1=>modn (a:=af) (b:=((l.length:Nat):Int)) o! o!) (by unfold dm;omega) (fun h0 h1=>by have h0:0<((w3 (l.g (dm af ((l.length:Nat):Int)).toNat)).g (dm part 3).toNat).length:=h0;have h1:((w3 (l.g (dm af ((l.length:Nat):Int)).toNat)).g (dm part 3).toNat).length≤16:=h1;exact modn (a:=place) (b:=((((w3 (l.g (dm af ((l.length:Nat):Int)).toNat)).g (dm part 3).toNat).length:Nat):Int)) o! o!) fun hk c=>Sv hk _
open Go.ChangeShapes Go.WideShapes Go.RowKit
structure Gx (φ φ':Ph) (h h':ah) (w:World):Prop where
 ok:OK env φ' h' w
 le:φ.le φ'
 ro:oV h'
 has:Has h h'
 nx:h.nx≤h'.nx
 tidy:Tidy h'
theorem Gx.refl {φ:Ph} {h:ah} {w:World} (ok:OK env φ h w) (ro:oV h) (y:Tidy h):Gx φ φ h h w:=⟨ok,Ph.le_refl _,ro,Has.refl _,Nat.le_refl _,y⟩
theorem Gx.trans {a b c:Ph} {h1 h2 h3:ah} {w:World} (x:Gx a b h1 h2 w) (y:Gx b c h2 h3 w):Gx a c h1 h3 w:=⟨y.ok,Ph.le_trans x.le y.le,y.ro,x.has.trans y.has,Nat.le_trans x.nx y.nx,y.tidy⟩
section
variable {H:Type} (enc:TypeId×Value→H) (w:World) (base:Nat) (spare:Nat→Bool) (held:Bool)
def Small (t:TypeId) (d:DataW H):Prop:=(DataW.weights env.P t d).all (· ≤reachBytes)=true
theorem Small.all {e:TypeId}:∀{l:List (DataW H)},(DataW.weightsAll env.P e l).all (· ≤reachBytes)=true→∀d∈l,Small e d
 | [],_,d,hd=>by cases hd
 | x::l,h,d,hd=>by
   rw[DataW.weightsAll,List.all_append,Bool.and_eq_true] at h
   rcases List.mem_cons.1 hd with rfl | hd
   · exact h.1
   · exact Small.all h.2 d hd
theorem Small.struct {t:TypeId} {fs:Array Field} {parts:List (DataW H)} (ht:env.P.underlying t=some (.struct fs)) (h:Small t (.agg parts)):(DataW.weightsEach env.P (fs.toList.map (·.type)) parts).all (· ≤reachBytes)=true:=by
 unfold Small at h
 rw[DataW.weights,ht] at h
 exact h
theorem Small.bw {t:TypeId} {ts:List TypeId} {d:DataW H} {ds:List (DataW H)} (h:(DataW.weightsEach env.P (t::ts) (d::ds)).all (· ≤reachBytes)=true):Small t d∧(DataW.weightsEach env.P ts ds).all (· ≤reachBytes)=true:=by
 rw[DataW.weightsEach,List.all_append,Bool.and_eq_true] at h
 exact h
theorem Ee {n:Nat} (h:n≤reachBytes):n<2^60:=Nat.lt_of_le_of_lt h (by unfold reachBytes;decide)
def wR {D:Type} (t:TypeId) (sz:Nat) (c:D→List AV) (ok:ah→D→Prop):Prop:=
 ∀(φ:Ph) (h:ah),OK env φ h w→oV h→Tidy h→∀(cs:List Value) (y:DataW H×List MemPlace) (n:Nat),cs.length=sz→Small t y.1→DataW.trod enc env.P w base spare held n t cs=some y→
  ∃φ' h' x,Gx φ φ' h h' w∧LR φ' (c x) cs∧ok h' x
variable {enc w base spare held}
theorem ka {k:IntKind} {t:TypeId} (ht:env.P.underlying t=some (.int k)):wR enc w base spare held t 1 (fun x:Int=> [.int k x]) (fun _ _=>True):=fun φ h ok ro y cs z n _ hw hv=>by
 obtain ⟨m,rfl,_,_⟩:=DataW.trod_int ht hv
 exact ⟨φ,h,m,Gx.refl ok ro y,LR.cons (VR.int k m) (LR.nil _),trivial⟩
theorem qI {t:TypeId} (ht:env.P.underlying t=some .string):wR enc w base spare held t 1 (fun x:List UInt8=> [.str x]) (fun _ x=>x.length<2^60):=fun φ h ok ro y cs z n _ hw hv=>by
 obtain ⟨s,rfl,rfl,hs⟩:=DataW.trod_string ht hv
 refine ⟨φ,h,s.data.toList,Gx.refl ok ro y,LR.cons (VR.str s) (LR.nil _),?_⟩
 unfold Small at hw
 rw[DataW.weights,List.all_cons,Bool.and_eq_true] at hw
 exact Ee (of_decide_eq_true hw.1)
theorem Bm {α:Type} [aw α] {t:TypeId} (ht:env.P.underlying t=some (.slice (aw.e α))) (hs:env.P.cellsOf (aw.e α)=aw.n α) (Z4:0<env.P.bytesOf (aw.e α)) (hm:∀(h:ah) (x:α) m,aw.ok h x→AV.map m ∉ aw.c x)
 (he:wR enc w base spare held (aw.e α) (aw.n α) (aw.c (α:=α)) aw.ok):wR enc w base spare held t 1 (fun x:AV×List α=> [x.1]) (fun h x=>bh h x.1 x.2):=fun φ h ok ro y cs z fuel _ hw hv=>by
 have JS:=aw.pos (α:=α)
 rcases DataW.trod_slice ht hv with ⟨rfl,_⟩ | ⟨a,len,cap,elems,rest,n,_,rfl,rfl,hb,PT,Wd,V_,cX,_,_⟩
 · exact ⟨φ,h,(.aK,[]),Gx.refl ok ro y,LR.cons VR.aK (LR.nil _),⟨aw.size,(Nat.zero_mul _).symm,Nat.pow_pos (by decide),rfl,.inl rfl⟩,.inl rfl,fun x hx=>by cases hx⟩
 rcases Nat.eq_zero_or_pos len with h0 | h0
 · subst h0
   exact ⟨φ,h,(.cb,[]),Gx.refl ok ro y,LR.cons (VR.cb a cap) (LR.nil _),⟨aw.size,(Nat.zero_mul _).symm,Nat.pow_pos (by decide),rfl,.inl rfl⟩,.inr (.inl rfl),fun x hx=>by cases hx⟩
 have vc:len<2^60∧(DataW.weightsAll env.P (aw.e α) (elems.map (·.1))).all (· ≤reachBytes)=true:=by
  unfold Small at hw
  rw[DataW.weights,ht] at hw
  simp only[List.all_cons,List.all_append,Bool.and_eq_true,List.length_map] at hw
  refine ⟨Ee (Nat.le_trans ?_ (of_decide_eq_true hw.1)),hw.2.1⟩
  rw[V_]
  exact Nat.le_trans (Nat.le_add_right _ _) (Nat.le_mul_of_pos_right _ Z4)
 have all:∀m,m≤len→∃(φ':Ph) (h':ah) (xs:List α),Gx φ φ' h h' w∧xs.length=m∧(∀x∈xs,aw.ok h' x)∧∀(i:Nat) (x:α),xs[i]? =some x→∀j v,(aw.c x)[j]? =some v→∃y,w.cell? ((a.add (i*aw.n α)).add j)=some y∧VR φ' v y:=by
  intro m
  induction m with
  | zero=>exact fun _=>⟨φ,h,[],Gx.refl ok ro y,rfl,fun _ hx=>(by cases hx),fun i xi hx=>(by simp at hx)⟩
  | succ m ih=>
    intro N6
    obtain ⟨φ1,h1,xs,g1,hl,hq,hx⟩:=ih o!
    have h2:=cX m o!
    rw[List.getElem?_eq_getElem o!,hs] at h2
    simp only[Option.bind_eq_some_iff] at h2
    obtain ⟨ci,Z5,Z6⟩:=h2
    obtain ⟨_,Ms,DC⟩:=World.cells?_some Z5
    obtain ⟨φ2,h2,x,g2,su,jT⟩:=he φ1 h1 g1.ok g1.ro g1.tidy ci _ n Ms (Small.all vc.2 _ (List.mem_map.2 ⟨_,List.getElem_mem _,rfl⟩)) Z6
    refine ⟨φ2,h2,xs++[x],g1.trans g2,by simp [hl],fun z hz=>?_,fun i z hz=>?_⟩
    · rcases List.mem_append.1 hz with h | h
      · exact aw.mono g2.has (hq z h)
      · simp at h;subst h;exact jT
    · by_cases hi:i<xs.length
      · rw[List.getElem?_append_left hi] at hz
        intro j v hj
        obtain ⟨q,e1,e2⟩:=hx i z hz j v hj
        exact ⟨q,e1,e2.mono g2.le⟩
      · rw[List.getElem?_append_right o!] at hz
        have:i - xs.length=0:=by
         have:=(List.getElem?_eq_some_iff.1 hz).1
         simp at this;omega
        rw[this] at hz
        simp at hz;subst hz
        have:i=m:=by omega
        subst this
        intro j v hj
        have kl:j<(aw.c x).length:=(List.getElem?_eq_some_iff.1 hj).1
        have Tk:j<ci.length:=by rw[←su.1];exact kl
        exact ⟨ci[j],by rw[DC j (by rw[Ms] at Tk;exact Tk),List.getElem?_eq_getElem Tk],su.2 j v _ hj (List.getElem?_eq_getElem Tk)⟩
 obtain ⟨φ1,h1,xs,g1,hl,hq,hx⟩:=all len (Nat.le_refl _)
 have Ci:=bH aw.len xs
 have Ef:a.spot=none:=by
  have Z7:xs[0]? =some (xs[0]'o!):=List.getElem?_eq_getElem o!
  obtain ⟨y,hy,_⟩:=hx 0 _ Z7 0 ((aw.c (xs[0]'o!))[0]'(by rw[aw.len];exact JS)) (List.getElem?_eq_getElem _)
  simp only[Nat.zero_mul,Addr.add,if_true] at hy
  unfold World.cell? at hy
  split at hy
  · cases Z8:a.spot with
    | none=>rfl
    | some _=>rw[Z8] at hy;simp at hy
  · cases hy
 have Sw:∀i j,(a.add (i*aw.n α)).add j=⟨a.block,a.off+(i*aw.n α+j),none⟩:=by
  intro i j
  obtain ⟨b,o,sp⟩:=a
  simp only at Ef
  subst Ef
  unfold Addr.add
  by_cases h1:i*aw.n α=0<;>by_cases h2:j=0<;>simp [h1,h2,Nat.add_assoc]
 have bY:xs.flatMap aw.c≠ []:=by
  intro e
  have:=congrArg List.length e
  rw[Ci,hl] at this
  have:=Nat.mul_pos h0 JS
  simp at *
  omega
 obtain ⟨h',hn,lD,hle,V',Z9,hg,hold,dw⟩:=g1.ok.show g1.ro (b:=a.block) (off:=a.off) (e:=aw.e α) bY (fun m N6=>by
  have:AV.map m∈xs.flatMap aw.c:=by rw[N6];simp
  obtain ⟨z,hz,Z_⟩:=List.mem_flatMap.1 this
  exact hm h1 z m (hq z hz) Z_) (fun k v hk=>by
  have zf:k<(xs.flatMap aw.c).length:=(List.getElem?_eq_some_iff.1 hk).1
  have Xz:k/aw.n α*aw.n α+k%aw.n α=k:=by rw[Nat.mul_comm];exact Nat.div_add_mod k _
  have hi:k/aw.n α<xs.length:=by
   rw[Ci] at zf
   exact (Nat.div_lt_iff_lt_mul JS).2 zf
  have XA:=hk
  rw[←Xz,fI aw.len _ _ _ hi (Nat.mod_lt _ JS)] at XA
  have Z':xs[k/aw.n α]? =some (xs.g (k/aw.n α)):=by
   rw[List.g,List.getD_eq_getElem?_getD,List.getElem?_eq_getElem hi];rfl
  obtain ⟨y,hy,SQ⟩:=hx _ _ Z' _ v XA
  rw[Sw,Xz] at hy
  exact ⟨y,hy,SQ⟩)
 have hVR:=VR.slice (φ:=φ1.add h1.nx ⟨a.block,a.off,0⟩) 0 len cap false dw
 have has:Has h1 h':=r7 g1.tidy hn
 refine ⟨_,h',(.slice h1.nx 0 len cap false,xs),g1.trans ⟨lD,hle,V',has,by omega,j3 g1.tidy hn⟩,LR.cons ?_ (LR.nil _),?_⟩
 · obtain ⟨b,o,sp⟩:=a
   simp only at Ef
   subst Ef
   exact hVR
 · subst hl
   exact ⟨⟨aw.size,Ci,vc.1,rfl,.inr ⟨h1.nx,0,_,cap,false,_,_,true,rfl,PT,hg,fun j _=>by rw[Nat.zero_add]⟩⟩,.inr (.inr ⟨_,_,_,_,_,rfl,fun e=>by cases e⟩),fun x hx=>aw.mono has (hq x hx)⟩
end
open Go.ChangeShapes Go.WideShapes Go.RowKit
section
variable {H:Type} {enc:TypeId×Value→H} {w:World} {base:Nat} {spare:Nat→Bool} {held:Bool}
end
open Go.ChangeShapes Go.WideShapes Go.RowKit
section
variable {H:Type} {enc:TypeId×Value→H} {w:World} {base:Nat} {spare:Nat→Bool} {held:Bool}
theorem Mh:Tryz.prog.cellsOf 3=1:=by kernel_rfl
theorem y9:Tryz.prog.cellsOf 9=1:=by kernel_rfl
theorem Mi:Tryz.prog.cellsOf 2=1:=by kernel_rfl
theorem JM:Tryz.prog.cellsOf 33=5:=by kernel_rfl
theorem Mj:wR enc w base spare held 33 5 (aw.c (α:=Fact)) aw.ok:=fun φ h0 ok ro ty cs z fuel hl hw hv=>by
 obtain ⟨xs,n,_,rfl,_,xb,hf⟩:=DataW.trod_struct Tryz.underlying33 hv
 obtain ⟨c0,c1,c2,c3,c4,rfl⟩:∃c0 c1 c2 c3 c4,cs=[c0,c1,c2,c3,c4]:=by
  match cs,hl with
  | [c0,c1,c2,c3,c4],_=>exact ⟨_,_,_,_,_,rfl⟩
 obtain ⟨y0,y1,y2,y3,y4,rfl⟩:∃y0 y1 y2 y3 y4,xs=[y0,y1,y2,y3,y4]:=by
  match xs,xb with
  | [y0,y1,y2,y3,y4],_=>exact ⟨_,_,_,_,_,rfl⟩
 have hs:=Small.struct Tryz.underlying33 hw
 obtain ⟨s0,hs⟩:=Small.bw hs
 have q0:DataW.trod enc Tryz.prog w base spare held n 3 [c0]=some y0:=by simpa [Mh] using hf 0 _ rfl
 obtain ⟨φ1,h1,x0,g0,l0,o0⟩:=ka (t:=3) Tryz.underlying3 _ _ (Gx.refl ok ro ty).ok (Gx.refl ok ro ty).ro (Gx.refl ok ro ty).tidy _ _ _ rfl s0 q0
 have G0:=Gx.trans (Gx.refl ok ro ty) g0
 obtain ⟨s1,hs⟩:=Small.bw hs
 have q1:DataW.trod enc Tryz.prog w base spare held n 9 [c1]=some y1:=by simpa [y9] using hf 1 _ rfl
 obtain ⟨φ2,h2,x1,g1,l1,o1⟩:=qI (t:=9) Tryz.underlying9 _ _ G0.ok G0.ro G0.tidy _ _ _ rfl s1 q1
 have G1:=Gx.trans G0 g1
 obtain ⟨s2,hs⟩:=Small.bw hs
 have q2:DataW.trod enc Tryz.prog w base spare held n 9 [c2]=some y2:=by simpa [y9] using hf 2 _ rfl
 obtain ⟨φ3,h3,x2,g2,l2,o2⟩:=qI (t:=9) Tryz.underlying9 _ _ G1.ok G1.ro G1.tidy _ _ _ rfl s2 q2
 have G2:=Gx.trans G1 g2
 obtain ⟨s3,hs⟩:=Small.bw hs
 have q3:DataW.trod enc Tryz.prog w base spare held n 9 [c3]=some y3:=by simpa [y9] using hf 3 _ rfl
 obtain ⟨φ4,h4,x3,g3,l3,o3⟩:=qI (t:=9) Tryz.underlying9 _ _ G2.ok G2.ro G2.tidy _ _ _ rfl s3 q3
 have G3:=Gx.trans G2 g3
 obtain ⟨s4,hs⟩:=Small.bw hs
 have q4:DataW.trod enc Tryz.prog w base spare held n 2 [c4]=some y4:=by simpa [Mi] using hf 4 _ rfl
 obtain ⟨φ5,h5,x4,g4,l4,o4⟩:=ka (t:=2) Tryz.underlying2 _ _ G3.ok G3.ro G3.tidy _ _ _ rfl s4 q4
 have G4:=Gx.trans G3 g4
 have L0:=LR.mono (Ph.le_trans (Ph.le_trans (Ph.le_trans (Ph.le_trans (Ph.le_refl _) g1.le) g2.le) g3.le) g4.le) l0
 have L1:=LR.mono (Ph.le_trans (Ph.le_trans (Ph.le_trans (Ph.le_refl _) g2.le) g3.le) g4.le) l1
 have L2:=LR.mono (Ph.le_trans (Ph.le_trans (Ph.le_refl _) g3.le) g4.le) l2
 have L3:=LR.mono (Ph.le_trans (Ph.le_refl _) g4.le) l3
 have L4:=LR.mono (Ph.le_refl _) l4
 exact ⟨_,_,⟨x0,x1,x2,x3,x4⟩,G4,(LR.append L0 (LR.append L1 (LR.append L2 (LR.append L3 (LR.append L4 (LR.nil _)))))),⟨o1,o2,o3⟩⟩
theorem Mk:wR enc w base spare held 22 1 (fun x:AV×List Fact=> [x.1]) (fun h x=>bh h x.1 x.2):=Bm (t:=22) Tryz.underlying22 JM (of_decide_eq_true (by kernel_rfl)) (fun _ x m _ h=>by cases x;simp [aw.c,Fact.c] at h) Mj
end
section
open Go.Shelf Go.RowKit
def rC:Go.Shelf.Ren:=⟨fun | 156=>60 | 165=>83 | 166=>84 | 169=>85 | 240=>136 | 241=>137 | 276=>164 | 277=>165 | n=>n,fun | 31=>73 | 9=>9 | 3=>3 | 4=>4 | 0=>0 | 20=>20 | 72=>180 | 76=>184 | 70=>178 | 37=>35 | 75=>183 | 127=>216 | 164=>240 | 5=>5 | 80=>186 | n=>n,fun | n=>n⟩
theorem Ml:Go.Proofs.Lays.n156 Tryz.prog rC:={
 mixed:=by kernel_rfl
 f156:=Tryz.func60.trans (congrArg some (by kernel_rfl))
 f165:=Tryz.func83.trans (congrArg some (by kernel_rfl))
 f166:=Tryz.func84.trans (congrArg some (by kernel_rfl))
 f169:=Tryz.func85.trans (congrArg some (by kernel_rfl))
 f240:=Tryz.func136.trans (congrArg some (by kernel_rfl))
 f241:=Tryz.func137.trans (congrArg some (by kernel_rfl))
 f276:=Tryz.func164.trans (congrArg some (by kernel_rfl))
 f277:=Tryz.func165.trans (congrArg some (by kernel_rfl))
 t0:=Tryz.underlying0
 a0:=Tryz.isAgg0
 z0:=Tryz.sizeOf0
 v0:=Tryz.zeroValue0
 t3:=Tryz.underlying3
 a3:=Tryz.isAgg3
 z3:=Tryz.sizeOf3
 v3:=Tryz.zeroValue3
 t4:=Tryz.underlying4
 a4:=Tryz.isAgg4
 z4:=Tryz.sizeOf4
 v4:=Tryz.zeroValue4
 t9:=Tryz.underlying9
 a9:=Tryz.isAgg9
 z9:=Tryz.sizeOf9
 v9:=Tryz.zeroValue9
 t20:=Tryz.underlying20
 a20:=Tryz.isAgg20
 z20:=Tryz.sizeOf20
 v20:=Tryz.zeroValue20
 t31:=Tryz.underlying73
 a31:=Tryz.isAgg73
 z31:=Tryz.sizeOf73
 v31:=Tryz.zeroValue73
 t37:=Tryz.underlying35
 a37:=Tryz.isAgg35
 z37:=Tryz.sizeOf35
 v37:=Tryz.zeroValue35
 t70:=Tryz.underlying178
 a70:=Tryz.isAgg178
 z70:=Tryz.sizeOf178
 v70:=Tryz.zeroValue178
 t72:=Tryz.underlying180
 a72:=Tryz.isAgg180
 z72:=Tryz.sizeOf180
 v72:=Tryz.zeroValue180
 t75:=Tryz.underlying183
 a75:=Tryz.isAgg183
 z75:=Tryz.sizeOf183
 v75:=Tryz.zeroValue183
 t76:=Tryz.underlying184
 a76:=Tryz.isAgg184
 z76:=Tryz.sizeOf184
 v76:=Tryz.zeroValue184
 t127:=Tryz.underlying216
 a127:=Tryz.isAgg216
 z127:=Tryz.sizeOf216
 v127:=Tryz.zeroValue216
 t164:=Tryz.underlying240
 a164:=Tryz.isAgg240
 z164:=Tryz.sizeOf240
 v164:=Tryz.zeroValue240}
theorem Pf:Builder.Extra Tryz.prog rC:={
 sizeBuilder:=by kernel_rfl
 liesBuilder:=by kernel_rfl
 t5:=Tryz.underlying5
 a5:=Tryz.isAgg5
 z5:=Tryz.sizeOf5
 v5:=Tryz.zeroValue5
 infoByte:=by kernel_rfl
 cellsByte:=by kernel_rfl
 sizeByte:=by kernel_rfl
 neB5:=by decide}
theorem H5:∀args w,(callFunc 60 args).run Tryz.prog w= .ok (.enter 60 args) w:=enters_of Tryz.func60 (by kernel_rfl) rfl
theorem LA:DL Tryz.prog 60:=fun bk o c xs sep w h1 h2 h3 h4 h5=>Any.strings_Join Ml Pf bk o c xs sep w h1 h2 h3 h4 h5
end
end
end Go.Proofs.aP
