import Derived.Laws.BitsLemmas
import Derived.Laws.RangeString
import Derived.Defers
import Derived.AtR
import Derived.RangeFuncNested
import Derived.Test.YtjbgioidmaofiaaGreatDoorA1
set_option linter.unusedVariables false
set_option linter.unusedSimpArgs false
section
namespace Go.Ab
variable {E:Env}
def E6 (E:Env) (φ:Ph) (h:ag) (w:World) (r:Result Value) (v:AV) (h':ag):Prop:=
 ∃φ' w' v',r= .ok v' w'∧VR φ' v v'∧OK E φ' h' w'∧Fr φ h w φ' h' w'
theorem vi {φ:Ph} {vs:List AV} {lq:List Value} (h:LR φ vs lq) (hs:vs.all AV.scalar=true):∀v∈lq,v.oneCell'=true:=by
 intro v hv
 obtain ⟨i,hi⟩:=List.getElem?_of_mem hv
 have Yf:i<vs.length:=by rw[h.1];exact (List.getElem?_eq_some_iff.1 hi).1
 have:=h.2 i vs[i] v (by simp [Yf]) hi
 exact this.scalar (List.all_eq_true.1 hs _ (List.getElem_mem Yf))
theorem px {φ:Ph} {h:ag} {w:World} (ok:OK E φ h w) {i:Nat} {cs:List AV} {e:TypeId} (hg:h.get i=some (.cells cs e false)) {l:Loc} (hφ:φ i=some l)
 {vs:List AV} {lq:List Value} (hl:LR φ vs lq) (o:Nat) (hle:o+vs.length≤cs.length) (mD:vs.all AV.scalar=true):
 ∃w',(storeCells ⟨l.cG,l.off+o,none⟩ lq).run E.P w= .ok () w'∧OK E φ (h.put i (some (.cells (setFrom cs o vs) e false))) w'∧
  Fr φ h w φ (h.put i (some (.cells (setFrom cs o vs) e false))) w':=by
 obtain ⟨C,e',lo,hi,hb,hc⟩:=ok.cells hg hφ
 have yf:=hc.size
 have hlen:=hl.1
 have dZ:=lO (P:=E.P) hb (l.off+o) lq (by omega) (fun k h1 h2=>hc.free rfl k (by omega) (by omega)) (vi hl mD)
 refine ⟨_,dZ,?_⟩
 obtain ⟨h1,h2,h3⟩:=n7 lq w l.cG (l.off+o)
 refine ok.change hg rfl hφ ?_ (fun c cH=>gX lq (Ne.symm cH) _) (lN _ _ _ _) h1 h2 h3
 refine ⟨gW C (l.off+o) lq,e',lo,hi,lM lq hb _,⟨?_,fun k x hk=>?_,fun _ k a b=>hc.free rfl k a (by rw[eO] at b;exact b),fun h=>by cases h⟩,fun _=>by have q:=hc.shape rfl;rw[eO,lB];exact q⟩
 · rw[eO,lB];exact yf
 · rw[dm] at hk
   rw[qn]
   split at hk
   · rename_i UG
     rw[if_pos (by omega)]
     obtain ⟨y,hy,hr⟩:=hl.get hk
     exact ⟨y,by rw[show l.off+k -(l.off+o)=k - o by omega];exact hy,hr⟩
   · rename_i UG
     have Yg:k<cs.length:=(List.getElem?_eq_some_iff.1 hk).1
     rw[if_neg (by omega)]
     exact hc.val k x hk
theorem E7 {φ:Ph} {h h':ag} {w:World} (ok:OK E φ h w) {t:TypeId} {av xv:AV} {a' x':Value} (ha:VR φ av a') (hx:VR φ xv x') (e:a_ E h t av xv=some h'):
 ∃w',(Instr.storeAt t a' x').run E.P w= .ok () w'∧OK E φ h' w'∧Fr φ h w φ h' w':=by
 unfold a_ at e
 split at e
 · rename_i i o
   cases ha with
   | @ptr _ l _ hφ=>
   split at e
   · rename_i cs el n hg hn
     split at e
     · rename_i hc
       simp at e;subst e
       obtain ⟨w',dZ,iV,jW⟩:=px ok hg hφ hx.cells o (by omega) hc.2.2
       refine ⟨w',?_,iV,jW⟩
       have hs:x'.cells.size=n:=by have:=hx.cells.1;simp at this;omega
       simp only[Instr.storeAt,Instr.sureAddr,Sem.run_bind,Sem.run_pure,Result.andThen_ok,storeVar,cM hn,hs,ne_eq,not_true_eq_false,if_false,dZ]
     · simp at e
   · simp at e
 · simp at e
theorem vj {φ:Ph} {h:ag} {w:World} (ok:OK E φ h w) {size n:Nat} {x:AV} {x':Value} (hx:VR φ x x') {new:List AV} (e:cP h size n x=some new) (hn:jU x=some n∨True):
 ∃nM:List Value,LR φ new nM∧∀w',w'.heap=w.heap→(Builtin.firstCells size n x').run E.P w'= .ok nM.toArray w':=by
 unfold cP at e
 split at e
 · split at e
   · rename_i h0
     simp at e;subst e
     cases hx
     exact ⟨[],LR.nil φ,fun w' _=>by simp [Builtin.firstCells]⟩
   · simp at e
 · split at e
   · rename_i h0
     simp at e;subst e
     cases hx
     exact ⟨[],LR.nil φ,fun w' _=>by subst h0;simp only[Builtin.firstCells,Nat.zero_mul];rfl⟩
   · simp at e
 · rename_i i o len _ _
   split at e
   · split at e
     · rename_i h0
       simp at e;subst e
       cases hx
       exact ⟨[],LR.nil φ,fun w' _=>by subst h0;simp only[Builtin.firstCells,Nat.zero_mul];rfl⟩
     · split at e
       · rename_i cs el ro hg
         split at e
         · rename_i hle
           simp at e;subst e
           cases hx with
           | @slice _ l _ _ _ _ hφ=>
           obtain ⟨C,e',lo,hi,hb,hc⟩:=ok.cells hg hφ
           obtain ⟨vs,Vi,yp,tN⟩:=hc.range o (n*size) hle
           refine ⟨vs,tN,fun w' hw=>?_⟩
           rw[←hw] at hb
           have vg:=jV (P:=E.P) hb (l.off+o) vs yp
           rw[Vi] at vg
           simp only[Builtin.firstCells,vg]
         · simp at e
       · simp at e
   · simp at e
 · rename_i s
   split at e
   · rename_i mM
     simp at e;subst e
     generalize E3:AV.str s=s0 at hx
     cases hx<;>cases E3
     rename_i s'
     refine ⟨(s'.data.toList.take n).map (fun b=>Value.int .u8 b.toNat),⟨by simp,fun i p q hp hq=>?_⟩,fun w' _=>?_⟩
     · rw[←List.map_take,List.getElem?_map] at hp
       rw[List.getElem?_map] at hq
       cases hb:(s'.data.toList.take n)[i]? with
       | none=>rw[hb] at hp;simp at hp
       | some b=>
         rw[hb] at hp hq
         simp at hp hq
         subst hp;subst hq
         exact .int _ _
     · simp only[Builtin.firstCells,Sem.run_pure]
       congr 1
       apply Array.ext'
       simp
   · simp at e
 · simp at e
end Go.Ab
namespace Go.Ab
variable {E:Env}
theorem OK.reuse {φ:Ph} {h h':ag} {w w':World} (ok:OK E φ h w) {i:Nat} {o o':aw} {l l':Loc} (hg:h.get i=some o) (ym:o.rw=true) (hl:φ i=some l) (hb:l'.cG=l.cG)
 (hn:(h.put i none).new o'=some h') (ho:OR E (φ.add h.nx l') o' l' w'.heap[l.cG]?) (kg:∀c,c≠l.cG→w'.heap[c]? =w.heap[c]?) (dp:w'.heap.size=w.heap.size)
 (Sj:w'.os=w.os) (va:w'.tape=w.tape) (lp:w'.output=w.output):
 OK E (φ.add h.nx l') h' w'∧Fr φ h w (φ.add h.nx l') h' w':=by
 obtain ⟨iv,UD,vb,hold⟩:=ag.iu hn
 have hpn:(h.put i none).nx=h.nx:=rfl
 rw[hpn] at UD vb hold
 have Ad:φ h.nx=none:=by
  cases e:φ h.nx with
  | none=>rfl
  | some m=>exact absurd (ok.sE _ _ e) (Nat.lt_irrefl _)
 have hle:φ.le (φ.add h.nx l'):=fun j m hm=>by
  unfold Ph.add;split
  · rename_i e;subst e;rw[Ad] at hm;simp at hm
  · exact hm
 have dw:∀j p,h'.get j=some p→(j=h.nx∧p=o')∨(j≠h.nx∧j≠i∧h.get j=some p):=fun j p hj=>by
  by_cases e:j=h.nx
  · subst e;rw[vb] at hj;simp at hj;exact .inl ⟨rfl,hj.symm⟩
  · rw[hold j e] at hj
    by_cases e':i=j
    · subst e';rw[ag.bu] at hj;simp at hj
    · rw[ag.aI e'] at hj;exact .inr ⟨e,Ne.symm e',hj⟩
 have gY:∀j,j≠h.nx→(φ.add h.nx l') j=φ j:=fun j hj=>by simp [Ph.add,hj]
 have et:(φ.add h.nx l') h.nx=some l':=by simp [Ph.add]
 refine ⟨⟨fun j m hm=>?_,?_,fun g hg=>hle _ _ (ok.nK g hg),fun j p m hj hm=>?_,fun j k p q m n hj hk hm nL hw Zc=>?_⟩,
  ⟨hle,fun j hj=>gY j (by omega),by omega,Sj,va,lp,Nat.le_of_eq dp.symm,fun b _ Vc=>kg b (fun e=>Vc i o l hg ym hl e.symm),fun j p m hj hr hm=>?_⟩⟩
 · rw[UD]
   by_cases e:j=h.nx
   · omega
   · rw[gY j e] at hm;have:=ok.sE j m hm;omega
 · have:=ok.nx;omega
 · rcases dw j p hj with ⟨rfl,rfl⟩ | ⟨cH,Ae,j6⟩
   · rw[et] at hm;simp at hm;subst hm;exact hb▸ho
   · rw[gY j cH] at hm
     rw[kg _ (fun e=>Ae (ok.inj j i p o m l j6 hg hm hl (.inr ym) e))]
     exact (ok.live j p m j6 hm).mono hle
 · rcases dw j p hj with ⟨rfl,rfl⟩ | ⟨cH,hni,j6⟩<;>rcases dw k q hk with ⟨rfl,rfl⟩ | ⟨Ae,Zd,yU⟩
   · rfl
   · rw[et] at hm;simp at hm;subst hm
     rw[gY k Ae] at nL
     exact absurd (ok.inj k i q o n l yU hg nL hl (.inr ym) (Zc.symm.trans hb)) Zd
   · rw[et] at nL;simp at nL;subst nL
     rw[gY j cH] at hm
     exact absurd (ok.inj j i p o m l j6 hg hm hl (.inr ym) (Zc.trans hb)) hni
   · rw[gY j cH] at hm;rw[gY k Ae] at nL;exact ok.inj _ _ _ _ _ _ j6 yU hm nL hw Zc
 · rcases dw j p hj with ⟨rfl,rfl⟩ | ⟨cH,hni,j6⟩
   · rw[et] at hm;simp at hm;subst hm;exact .inr ⟨i,o,l,hg,ym,hl,hb.symm⟩
   · rw[gY j cH] at hm;exact .inr ⟨j,p,m,j6,hr,hm,rfl⟩
theorem yZ:∀(rounds c E8:Nat),c<E8→Builtin.growBy E8 rounds c≤2*E8+1000
 | 0,c,n,h=>by simp [Builtin.growBy];omega
 | r+1,c,n,h=>by
   simp only[Builtin.growBy]
   split
   · omega
   · by_cases hc:c+(c+768) /4<n
     · exact yZ r _ n hc
     · cases r with
       | zero=>simp only[Builtin.growBy];omega
       | succ r=>simp only[Builtin.growBy];rw[if_pos (by omega)];omega
theorem nextslicecap_le {n c:Nat} (h:c<n):Builtin.nextslicecap n c≤4*n+4096:=by
 unfold Builtin.nextslicecap
 split
 · omega
 · split
   · omega
   · have:=yZ 4 c n h;omega
theorem km (z:Array Value) (n:Nat):(Builtin.zeroCells z n).size=n*z.size:=by simp [Builtin.zeroCells]
theorem nA {P:Program} {w:World} {sT xT ty elem:TypeId} {xd:TypeDesc} (hs:P.underlying sT=some (.slice elem)) (hx:P.underlying xT=some xd) (Ox:∀k,xd≠ .int k)
 {size bytes n:Nat} (dp:(P.info? elem).map (·.size)=some size) (dP:(P.info? elem).map (·.bytes)=some bytes) {z:Value} (hz:∀w,(zeroValue elem).run P w= .ok z w) (Oy:z.cells.size=size)
 {base:Option Addr} {len cap:Nat} {x':Value} (hn:∀w,(Builtin.lenOf x').run P w= .ok n w) {old new:List Value} (hold:∀w',w'.heap=w.heap→(Builtin.firstCells size len (.slice base len cap)).run P w'= .ok old.toArray w')
 (vb:∀w',w'.heap=w.heap→(Builtin.firstCells size n x').run P w'= .ok new.toArray w') (iv:cap<len+n) (yg:(4*(len+n)+4096)*(bytes+1)≤1099511627776) (N6:old.length=len*size) (J0:new.length=n*size):
 ∃nc:Nat,∃C:Array Value,len+n≤nc∧(∃rest,C.toList=old++new++rest)∧C.size=nc*size∧
  (Builtin.append_ #[sT,xT] ty #[.slice base len cap,x']).run P w= .ok (.slice (some ⟨w.heap.size,0,none⟩) (len+n) nc) (w.drew.alloc (.cells C elem)):=by
 let nc:=(Question.appendCap (len+n) cap elem).cut (w.tape w.drawn (.appendCap (len+n) cap elem))
 have Jz:len+n≤nc:=by show len+n≤len+n+_;omega
 let C:Array Value:=old.toArray++new.toArray++Builtin.zeroCells z.cells (nc -(len+n))
 refine ⟨nc,C,Jz,⟨(Builtin.zeroCells z.cells (nc -(len+n))).toList,by simp [C]⟩,?_,?_⟩
 · simp only[C,Array.size_append,km,Oy,List.size_toArray,N6,J0]
   rw[←Nat.add_mul,←Nat.add_mul];congr 1;omega
 · obtain ⟨inf,Ci,hb⟩:=mc dP w
   obtain ⟨Ze,J1,QT⟩:=mc dP w.drew
   have Sr:(match xd with | .int _=>true | _=>false)=false:=by cases xd<;>first | rfl | exact absurd rfl (Ox _)
   have Oz:¬len+n≤cap:=by omega
   have Ss:=nextslicecap_le iv
   have hmul:(4*(len+n)+4096)*(bytes+1)=(4*(len+n)+4096)*bytes+(4*(len+n)+4096):=by rw[Nat.mul_add,Nat.mul_one]
   have E9:¬Builtin.nextslicecap (len+n) cap*bytes>2^48:=by
    have:Builtin.nextslicecap (len+n) cap*bytes≤(4*(len+n)+4096)*bytes:=Nat.mul_le_mul_right _ Ss
    omega
   have Su:IntKind.i64.max=9223372036854775807:=by decide
   have Aq:¬(((len+n:Nat):Int) >IntKind.i64.max):=by rw[Su];omega
   have o1:=hold w.drew rfl
   have n1:=vb w.drew rfl
   have z1:=hz w.drew
   have hf:((!false)=true)=True:=by simp
   simp only[Builtin.append_,List.getElem?_toArray,List.getElem?_cons_zero,List.getElem?_cons_succ,Sem.run_bind,Sem.run_pure,Result.andThen_ok,run_underlying hs,run_underlying hx,cM dp,Bool.false_eq_true,if_false,hn,Oz,Ci]
   rw[if_neg (fun h=>Aq h.1)]
   simp only[Sem.run_bind,Ci,hb,Result.andThen_ok]
   rw[if_neg E9]
   simp only[Sem.run_bind,run_choose,Question.forced,Bool.false_eq_true,if_false,World.drew_eq,Result.andThen_ok,J1,run_askRoom,o1,hf,if_true,n1,z1,newRow,run_newObj,World.alloc_eq,Sem.run_pure]
   rfl
theorem mg {P:Program} {w w':World} {sT xT ty elem:TypeId} {xd:TypeDesc} (hs:P.underlying sT=some (.slice elem)) (hx:P.underlying xT=some xd) (Ox:∀k,xd≠ .int k)
 {size n:Nat} (dp:(P.info? elem).map (·.size)=some size) {b O len cap:Nat} {x':Value} (hn:∀w,(Builtin.lenOf x').run P w= .ok n w) {new:List Value}
 (vb:(Builtin.firstCells size n x').run P w= .ok new.toArray w) (hle:len+n≤cap) (eZ:(storeCells ⟨b,O+len*size,none⟩ new).run P w= .ok () w'):
 (Builtin.append_ #[sT,xT] ty #[.slice (some ⟨b,O,none⟩) len cap,x']).run P w= .ok (.slice (some ⟨b,O,none⟩) (len+n) cap) w':=by
 have Sr:(match xd with | .int _=>true | _=>false)=false:=by cases xd<;>first | rfl | exact absurd rfl (Ox _)
 have hf:((!false)=true)=True:=by simp
 simp only[Builtin.append_,List.getElem?_toArray,List.getElem?_cons_zero,List.getElem?_cons_succ,Sem.run_bind,Sem.run_pure,Result.andThen_ok,run_underlying hs,run_underlying hx,cM dp,hf,Bool.false_eq_true,if_false,if_true,hn,hle,vb,pv,eZ]
theorem rl {φ:Ph} {h h':ag} {w:World} (ok:OK E φ h w) {new:List AV} {elem:TypeId} (hn:h.new (.cells new elem false)=some h') {l:List Value} (hl:LR φ new l)
 {size nc n bytes:Nat} (dp:bh E elem=some size) (dP:dj E elem=some bytes) {C:Array Value} {rest:List Value} (hC:C.toList=l++rest) (Jx:C.size=nc*size) (Jz:n≤nc) (Yh:l.length=n*size):
 E6 E φ h w (.ok (.slice (some ⟨w.heap.size,0,none⟩) n nc) (w.drew.alloc (.cells C elem))) (.slice h.nx 0 n n true) h':=by
 have J0:new.length=n*size:=by rw[hl.1,Yh]
 obtain ⟨iV,jW,hle⟩:=ok.fresh (w':=w.drew.alloc (.cells C elem)) hn ⟨w.heap.size,0,nc - n⟩ (by
  refine ⟨C,elem,0,0,by rw[show (w.drew.alloc (.cells C elem)).heap=w.heap.push (.cells C elem) from rfl];simp,⟨?_,fun k x hk=>?_,fun _ k _ _=>by omega,fun _ _ _=>rfl⟩,fun _=>⟨rfl,rfl,fun _ _ z=>by rw[dP] at z;cases z⟩⟩
  · simp only[dy,dp,Option.getD_some,J0,Jx,Nat.zero_add]
    rw[←Nat.add_mul];exact Nat.mul_le_mul_right _ (by omega)
  · obtain ⟨y,hy,hr⟩:=hl.get hk
    have Yg:k<l.length:=(List.getElem?_eq_some_iff.1 hy).1
    refine ⟨y,?_,hr.mono (fun i m hm=>?_)⟩
    · have:C.toList[k]? =some y:=by rw[hC,List.getElem?_append_left Yg];exact hy
      simpa using this
    · unfold Ph.add
      split
      · rename_i e;subst e;exact absurd (ok.sE _ _ hm) (Nat.lt_irrefl _)
      · exact hm)
  (fun c cH hc=>by
   have:(w.drew.alloc (.cells C elem)).heap[c]? =w.heap[c]? :=by
    rw[show (w.drew.alloc (.cells C elem)).heap=w.heap.push (.cells C elem) from rfl,Array.getElem?_push,if_neg (by simpa using cH)]
   exact this) (by simp) (Nat.le_refl _) rfl rfl rfl
 refine ⟨_,_,_,rfl,?_,iV,jW⟩
 have:=VR.slice (φ:=φ.add h.nx ⟨w.heap.size,0,nc - n⟩) (i:=h.nx) (l:=⟨w.heap.size,0,nc - n⟩) 0 n n true (by simp [Ph.add])
 simp only[dx,if_true] at this
 rw[show n+(nc - n)=nc by omega] at this
 exact this
theorem Fr.OA {φ φ':Ph} {h h':ag} {w w':World} {i:Nat} (f:Fr φ (h.put i none) w φ' h' w'):Fr φ h w φ' h' w':=by
 have dw:∀j p,(h.put i none).get j=some p→h.get j=some p:=fun j p hj=>by
  by_cases e:i=j
  · subst e;rw[ag.bu] at hj;simp at hj
  · rw[ag.aI e] at hj;exact hj
 exact ⟨f.ext,f.old,f.nx,f.os,f.tape,f.output,f.size,fun b hb hn=>f.n6 b hb (fun j p m hj=>hn j p m (dw j p hj)),
  fun j p m hj hr hm=>(f.own j p m hj hr hm).imp id (fun ⟨k,q,n,a,b⟩=>⟨k,q,n,dw k q a,b⟩)⟩
theorem kn {φ:Ph} {x:AV} {n:Nat} (h:jU x=some n) {x':Value} (hx:VR φ x x') (P:Program) (w:World):(Builtin.lenOf x').run P w= .ok n w:=by
 cases x<;>simp [jU] at h
 · subst h
   generalize E3:AV.str _=s0 at hx
   cases hx<;>cases E3
   rfl
 · cases hx;subst h;rfl
 · cases hx;subst h;rfl
 · cases hx;subst h;rfl
theorem uy {P:Program} {w:World} {sT xT ty elem:TypeId} {kx:IntKind} (hs:P.underlying sT=some (.slice elem)) (hx:P.underlying xT=some (.int kx))
 {size bytes:Nat} (dp:(P.info? elem).map (·.size)=some size) (dP:(P.info? elem).map (·.bytes)=some bytes) {z:Value} (hz:∀w,(zeroValue elem).run P w= .ok z w) (Oy:z.cells.size=size)
 {k:IntKind} {n:Int} (hn:0<n) (E_:0<size) (yg:(4*n.toNat+4096)*(bytes+1)≤1099511627776):
 ∃nc:Nat,∃C:Array Value,n.toNat≤nc∧(∃rest,C.toList=(Builtin.zeroCells z.cells n.toNat).toList++rest)∧C.size=nc*size∧
  (Builtin.append_ #[sT,xT] ty #[.slice none 0 0,.int k n]).run P w= .ok (.slice (some ⟨w.heap.size,0,none⟩) n.toNat nc) (w.drew.alloc (.cells C elem)):=by
 let nc:=(Question.appendCap (0+n.toNat) 0 elem).cut (w.tape w.drawn (.appendCap (0+n.toNat) 0 elem))
 have Jz:n.toNat≤nc:=by show n.toNat≤0+n.toNat+_;omega
 let C:Array Value:= #[]++Builtin.zeroCells z.cells n.toNat++Builtin.zeroCells z.cells (nc -(0+n.toNat))
 refine ⟨nc,C,Jz,⟨(Builtin.zeroCells z.cells (nc -(0+n.toNat))).toList,by simp [C]⟩,?_,?_⟩
 · simp only[C,Array.size_append,km,Oy,Array.size_empty,Nat.zero_add]
   rw[←Nat.add_mul];congr 1;omega
 · obtain ⟨inf,Ci,hb⟩:=mc dP w
   obtain ⟨Ze,J1,QT⟩:=mc dP w.drew
   have hmul:(4*n.toNat+4096)*(bytes+1)=(4*n.toNat+4096)*bytes+(4*n.toNat+4096):=by rw[Nat.mul_add,Nat.mul_one]
   have J0:n.toNat≤1099511627776:=by omega
   have Vm:IntKind.i64.wrap n=n:=by
    rw[IntKind.wrap_i64];omega
   have Zf:¬n<0:=by omega
   have yh:n*(bytes:Int)=((n.toNat*bytes:Nat):Int):=by rw[Int.natCast_mul,Int.toNat_of_nonneg (by omega)]
   have hle:n.toNat*bytes≤(4*n.toNat+4096)*bytes:=Nat.mul_le_mul_right _ (by omega)
   have Vn:¬n*(bytes:Int) >2^48:=by rw[yh];omega
   have Oz:¬0+n.toNat≤0:=by omega
   have Ss:=nextslicecap_le (show 0<0+n.toNat by omega)
   have E9:¬Builtin.nextslicecap (0+n.toNat) 0*bytes>2^48:=by
    have:Builtin.nextslicecap (0+n.toNat) 0*bytes≤(4*(0+n.toNat)+4096)*bytes:=Nat.mul_le_mul_right _ Ss
    rw[Nat.zero_add] at this
    rw[Nat.zero_add]
    omega
   have Su:IntKind.i64.max=9223372036854775807:=by decide
   have Aq:¬(((0+n.toNat:Nat):Int) >IntKind.i64.max):=by rw[Su];omega
   have Yi:¬n.toNat*size=0:=by
    have h1:0<n.toNat:=by omega
    have:=Nat.mul_pos h1 E_;omega
   have z1:=hz w.drew
   have hf:((!true)=true)=False:=by simp
   have hai:∀w,(asInt (.int k n)).run P w= .ok n w:=fun _=>rfl
   simp only[Builtin.append_,List.getElem?_toArray,List.getElem?_cons_zero,List.getElem?_cons_succ,Sem.run_bind,Sem.run_pure,Result.andThen_ok,run_underlying hs,run_underlying hx,cM dp,if_true,hai,Vm]
   rw[if_neg Zf]
   simp only[Sem.run_bind,Ci,hb,Result.andThen_ok]
   rw[if_neg Vn]
   simp only[Sem.run_bind,Sem.run_pure,Result.andThen_ok]
   rw[if_neg Oz]
   simp only[Sem.run_bind,Result.andThen_ok,Ci,hb]
   rw[if_neg (fun h=>Aq h.1)]
   simp only[Sem.run_bind,Ci,hb,Result.andThen_ok]
   rw[if_neg E9]
   simp only[Sem.run_bind,run_choose,Question.forced,Bool.false_eq_true,if_false,World.drew_eq,Result.andThen_ok,J1,run_askRoom,Builtin.firstCells,hf,if_neg Yi,z1,newRow,run_newObj,World.alloc_eq,Sem.run_pure]
   simp only[nc,C,Nat.zero_add]
   rfl
theorem Cj {φ:Ph} {h h':ag} {w:World} (ok:OK E φ h w) {argTypes:Array TypeId} {s x v:AV} (e:bp E h argTypes s x=some (v,h')) {s' x':Value} (hs:VR φ s s') (hx:VR φ x x') (ty:TypeId):
 E6 E φ h w ((Builtin.append_ argTypes ty #[s',x']).run E.P w) v h':=by
 unfold bp at e
 split at e
 · rename_i sT xT hsT hxT
   split at e
   · rename_i elem xd UH UI
     split at e
     · rename_i hint
       cases xd<;>simp [iS] at hint
       have key:(Builtin.append_ argTypes ty #[s',x']).run E.P w=(Builtin.append_ #[sT,xT] ty #[s',x']).run E.P w:=by
        unfold Builtin.append_;simp only[hsT,hxT];rfl
       rw[key]
       unfold nX at e
       split at e
       · rename_i k0 k size bytes z dp dP hzero
         split at e
         · rename_i hc
           obtain ⟨hk,E_,yg,Sp⟩:=hc
           split at e
           · rename_i h1 tT
             simp at e;obtain ⟨rfl,rfl⟩:=e
             cases hs;cases hx
             obtain ⟨z',sy,f'⟩:=eQ hzero
             have Oy:z'.cells.size=size:=by have:=(sy φ).cells.1;simp at this;omega
             obtain ⟨nc,C,Jz,⟨rest,hC⟩,Jx,dZ⟩:=uy (P:=E.P) (w:=w) (ty:=ty) (k:=k0) UH UI dp (pt _ dP) f' Oy hk E_ yg
             rw[dZ]
             exact rl (n:=k.toNat) ok tT (l:=(Builtin.zeroCells z'.cells k.toNat).toList) (E5 (sy φ).cells k.toNat) dp dP hC Jx Jz (by rw[Array.length_toList,km,Oy])
           · simp at e
         · simp at e
       · simp at e
     rename_i Vo
     have Ox:∀k,xd≠ .int k:=fun k he=>by subst he;simp [iS] at Vo
     split at e
     · rename_i size bytes n dp dP hlen
       split at e
       · rename_i new z vk hzero
         split at e
         · rename_i hc
           obtain ⟨Sp,mD,QU⟩:=hc
           obtain ⟨z',sy,f'⟩:=eQ hzero
           have Oy:z'.cells.size=size:=by have:=(sy φ).cells.1;simp at this;omega
           obtain ⟨nM,yq,rm⟩:=vj ok hx vk (.inr trivial)
           have J0:nM.length=n*size:=by rw[←yq.1];exact QU
           have key:(Builtin.append_ argTypes ty #[s',x']).run E.P w=(Builtin.append_ #[sT,xT] ty #[s',x']).run E.P w:=by
            unfold Builtin.append_;simp only[hsT,hxT];rfl
           rw[key]
           split at e
           ·
            cases hs
            split at e
            · rename_i Ig
              simp at e;obtain ⟨rfl,rfl⟩:=e
              subst Ig
              refine ⟨φ,w,_,?_,.aj,ok,Fr.refl φ h w⟩
              have Sr:(match xd with | .int _=>true | _=>false)=false:=by cases xd<;>first | rfl | exact absurd rfl (Ox _)
              have hf:((!false)=true)=True:=by simp
              have Yj:=rm w rfl
              simp only[Builtin.append_,List.getElem?_toArray,List.getElem?_cons_zero,List.getElem?_cons_succ,Sem.run_bind,Sem.run_pure,Result.andThen_ok,run_underlying UH,run_underlying UI,cM dp,hf,Bool.false_eq_true,if_false,if_true,kn hlen hx,Yj,Nat.le_refl,Nat.add_zero]
            · rename_i Ig
              split at e
              · rename_i yg
                split at e
                · rename_i h1 tT
                  simp at e;obtain ⟨rfl,rfl⟩:=e
                  obtain ⟨nc,C,Jz,⟨rest,hC⟩,Jx,dZ⟩:=nA (P:=E.P) (w:=w) (ty:=ty) UH UI Ox dp (pt _ dP) f' Oy (base:=none) (len:=0) (cap:=0) (fun w=>kn hlen hx E.P w) (old:=[]) (fun w' _=>by simp [Builtin.firstCells]) (fun w' hw=>rm w' hw) (by omega) (by simpa using yg) (by simp) J0
                  have:=rl (n:=n) ok tT (l:=[]++nM) (by simpa using yq) (by simpa using dp) dP (by simpa using hC) Jx (by omega) (by simp [J0])
                  rw[dZ]
                  simp only[Nat.zero_add] at this ⊢
                  exact this
                · simp at e
              · simp at e
           · rename_i i o len cap op
             cases hs with
             | @slice _ l _ _ _ _ hφ=>
             split at e
             · rename_i cs el hg
               split at e
               ·
                rename_i Vp
                split at e
                · rename_i hle
                  simp at e;obtain ⟨rfl,rfl⟩:=e
                  have Sm:cap≤dx op cap l.eI:=by unfold dx;split<;>omega
                  obtain ⟨w',eZ,iV,jW⟩:=px ok hg hφ yq (o+len*size) (by rw[QU,Nat.add_assoc,←Nat.add_mul];exact hle) mD
                  refine ⟨φ,w',_,mg (P:=E.P) UH UI Ox dp (fun w=>kn hlen hx E.P w) (rm w rfl) (by omega) (by rw[Nat.add_assoc];exact eZ),?_,iV,jW⟩
                  have:=VR.slice (φ:=φ) o (len+n) cap op hφ
                  exact this
                · simp at e
               · rename_i Vp
                 split at e
                 · rename_i E1
                   obtain ⟨yg,N6,l9⟩:=E1
                   split at e
                   · rename_i h1 tT
                     simp at e;obtain ⟨rfl,rfl⟩:=e
                     obtain ⟨C0,e0,lo,hi,Sq,UJ⟩:=ok.cells hg hφ
                     obtain ⟨OB,Ck,Vq,E'⟩:=UJ.range o (len*size) N6
                     have OC:∀cp w',w'.heap=w.heap→(Builtin.firstCells size len (.slice (some ⟨l.cG,l.off+o,none⟩) len cp)).run E.P w'= .ok OB.toArray w':=fun cp w' hw=>by
                      rw[←hw] at Sq
                      have vg:=jV (P:=E.P) Sq (l.off+o) OB Vq
                      rw[Ck] at vg
                      simp only[Builtin.firstCells,vg]
                     by_cases UG:len+n≤dx op cap l.eI
                     ·
                      have Zg:op=true:=by
                       cases op with
                       | true=>rfl
                       | false=>simp [dx] at UG;omega
                      subst Zg
                      obtain ⟨rfl,Vg,ho0⟩:=l9 rfl
                      simp only[dx,if_true] at UG ⊢
                      simp only[if_true] at tT
                      have yf:=UJ.size
                      simp only[dy,dp,Option.getD_some] at yf
                      have hmul:(len+n)*size≤(cap+l.eI)*size:=Nat.mul_le_mul_right _ UG
                      have e1:(len+n)*size=len*size+n*size:=Nat.add_mul _ _ _
                      have e2:(cap+l.eI)*size=cap*size+l.eI*size:=Nat.add_mul _ _ _
                      have eZ:=lO (P:=E.P) Sq (l.off+o+len*size) nM (by omega) (fun k k1 k2=>UJ.free rfl k (by omega) (by simp only[dy,dp,Option.getD_some];omega)) (vi yq mD)
                      obtain ⟨p1,p2,p3⟩:=n7 nM w l.cG (l.off+o+len*size)
                      obtain ⟨iV,jW⟩:=ok.reuse (w':=w.setCells l.cG (l.off+o+len*size) nM) (l':=⟨l.cG,l.off+o,cap+l.eI -(len+n)⟩) hg rfl hφ rfl tT (by
                       refine ⟨gW C0 (l.off+o+len*size) nM,e0,lo,hi,lM nM Sq _,⟨?_,fun k x hk=>?_,fun _ k a b=>UJ.free rfl k (by simp at a;omega) ?_,fun h=>by cases h⟩,fun _=>⟨(UJ.shape rfl).1,by show l.off+o=0;have:=(UJ.shape rfl).2.1;omega,fun _ _ z=>by rw[dP] at z;cases z⟩⟩
                       · simp only[dy,dp,Option.getD_some,lB,List.length_append,E'.1,Ck,yq.1,J0]
                         rw[Nat.sub_mul];omega
                       · show ∃y,(gW C0 (l.off+o+len*size) nM)[l.off+o+k]? =some y∧_
                         rw[qn]
                         by_cases Yk:k<len*size
                         · rw[List.getElem?_append_left (by rw[E'.1,Ck];exact Yk)] at hk
                           obtain ⟨y,hy,hr⟩:=E'.get hk
                           rw[if_neg (by omega)]
                           exact ⟨y,Vq k y hy,hr.mono (fun j m hm=>by
                            unfold Ph.add
                            split
                            · rename_i ej;subst ej;exact absurd (ok.sE _ _ hm) (Nat.lt_irrefl _)
                            · exact hm)⟩
                         · rw[List.getElem?_append_right (by rw[E'.1,Ck];omega)] at hk
                           obtain ⟨y,hy,hr⟩:=yq.get hk
                           have hyl:k -((List.take (len*size) (List.drop o cs)).length)<nM.length:=(List.getElem?_eq_some_iff.1 hy).1
                           rw[E'.1,Ck] at hyl hy
                           rw[if_pos (by omega)]
                           exact ⟨y,by rw[show l.off+o+k -(l.off+o+len*size)=k - len*size by omega];exact hy,hr.mono (fun j m hm=>by
                            unfold Ph.add
                            split
                            · rename_i ej;subst ej;exact absurd (ok.sE _ _ hm) (Nat.lt_irrefl _)
                            · exact hm)⟩
                       · simp only[dy,dp,Option.getD_some,List.length_append,E'.1,Ck,yq.1,J0] at b ⊢
                         rw[Nat.sub_mul] at b;omega)
                       (fun c cH=>gX nM (Ne.symm cH) _) (lN _ _ _ _) p1 p2 p3
                      refine ⟨_,_,_,mg (P:=E.P) UH UI Ox dp (fun w=>kn hlen hx E.P w) (rm w rfl) UG eZ,?_,iV,jW⟩
                      have:=VR.slice (φ:=φ.add h.nx ⟨l.cG,l.off+o,cap+l.eI -(len+n)⟩) (i:=h.nx) (l:=⟨l.cG,l.off+o,cap+l.eI -(len+n)⟩) 0 (len+n) (len+n) true (by simp [Ph.add])
                      simp only[dx,if_true] at this
                      rw[show len+n+(cap+l.eI -(len+n))=cap+l.eI by omega] at this
                      exact this
                     ·
                      obtain ⟨nc,C,Jz,⟨rest,hC⟩,Jx,dZ⟩:=nA (P:=E.P) (w:=w) (ty:=ty) UH UI Ox dp (pt _ dP) f' Oy (base:=some ⟨l.cG,l.off+o,none⟩) (len:=len) (cap:=dx op cap l.eI) (fun w=>kn hlen hx E.P w) (old:=OB) (fun w' hw=>OC _ w' hw) (fun w' hw=>rm w' hw) (by omega) yg Ck J0
                      rw[dZ]
                      have tN:=E'.append yq
                      have Yh:(OB++nM).length=(len+n)*size:=by rw[List.length_append,Ck,J0,Nat.add_mul]
                      cases op with
                      | false=>exact rl ok tT tN dp dP hC Jx Jz Yh
                      | true=>
                        obtain ⟨φ',w',v',a1,a2,a3,a4⟩:=rl ok.kill tT tN dp dP hC Jx Jz Yh
                        exact ⟨φ',w',v',a1,a2,a3,a4.OA⟩
                   · simp at e
                 · simp at e
             · simp at e
           · simp at e
         · simp at e
       · simp at e
     · simp at e
   · simp at e
 · simp at e
end Go.Ab
end
section
namespace Go.Ab
variable {E:Env}
theorem Ii {φ:Ph} {h h':ag} {w:World} (ok:OK E φ h w) {argTypes:Array TypeId} {s d v:AV} (e:pZ E h argTypes d s=some (v,h')) {s' d':Value} (hd:VR φ d d') (hs:VR φ s s') (ty:TypeId):
 E6 E φ h w ((Builtin.copy_ argTypes ty #[d',s']).run E.P w) v h':=by
 unfold pZ at e
 split at e
 · rename_i dT hdT
   split at e
   · rename_i elem m hu hm
     split at e
     · rename_i size dp
       simp at e;obtain ⟨rfl,rfl⟩:=e
       cases hd
       refine ⟨φ,w,_,?_,.int .i64 0,ok,Fr.refl φ h w⟩
       have h0:Nat.min m 0=0:=Nat.min_eq_right (Nat.zero_le _)
       obtain ⟨nM,_,rm⟩:∃nM:List Value,True∧(Builtin.firstCells size 0 s').run E.P w= .ok nM.toArray w:=by
        cases s<;>simp [jU] at hm
        · generalize E3:AV.str _=s0 at hs
          cases hs<;>cases E3
          refine ⟨[],trivial,?_⟩
          simp [Builtin.firstCells]
        · cases hs;exact ⟨[],trivial,by simp [Builtin.firstCells]⟩
        · cases hs;exact ⟨[],trivial,by simp [Builtin.firstCells,loadCells,loadCellsFrom]⟩
        · cases hs;exact ⟨[],trivial,by simp [Builtin.firstCells,loadCells,loadCellsFrom]⟩
       simp only[Builtin.copy_,hdT,List.getElem?_toArray,List.getElem?_cons_zero,List.getElem?_cons_succ,Sem.run_bind,Result.andThen_ok,run_underlying hu,kn hm hs,h0,cM dp,rm,Sem.run_pure]
       rfl
     · rename_i size i o len _ _ dp
       split at e
       · rename_i new cs el vk hg
         split at e
         · rename_i hc
           simp at e;obtain ⟨rfl,rfl⟩:=e
           cases hd with
           | @slice _ l _ _ _ _ hφ=>
           obtain ⟨nM,yq,rm⟩:=vj ok hs vk (.inr trivial)
           obtain ⟨w',eZ,iV,jW⟩:=px ok hg hφ yq o hc.1 hc.2
           refine ⟨φ,w',_,?_,.int .i64 _,iV,jW⟩
           have h0:Nat.min m len=min m len:=rfl
           simp only[Builtin.copy_,hdT,List.getElem?_toArray,List.getElem?_cons_zero,List.getElem?_cons_succ,Sem.run_bind,Result.andThen_ok,run_underlying hu,kn hm hs,h0,cM dp,rm w rfl,eZ,Sem.run_pure]
           rfl
         · simp at e
       · simp at e
     · simp at e
   · simp at e
 · simp at e
theorem Cl {w:World} {b n:Nat} {C:Array Value} {e:TypeId} (h:w.heap[b]? =some (.cells C e)):(w.freeze ⟨b,n,none⟩ 1).heap[b]? =some (.cells C e (n,n+1)):=by
 simp [World.freeze,Array.getElem?_modify,h]
theorem Ar {w:World} {b c n:Nat} (h:b≠c):(w.freeze ⟨b,n,none⟩ 1).heap[c]? =w.heap[c]? :=by
 simp [World.freeze,Array.getElem?_modify,h]
theorem Cm (w:World) (b n:Nat):(w.freeze ⟨b,n,none⟩ 1).heap.size=w.heap.size:=by simp [World.freeze]
theorem Ij {φ:Ph} {h h':ag} {w:World} (ok:OK E φ h w) {src dst:TypeId} {x:AV} {v:AV} (e:ra E h src dst (some x)=some (v,h')) {x':Value} (hx:VR φ x x'):
 E6 E φ h w ((convert src dst x').run E.P w) v h':=by
 unfold ra at e
 split at e
 · rename_i el s hs hd Af
   simp at Af;subst Af
   generalize E3:AV.str s=s0 at hx
   cases hx<;>cases E3
   rename_i s'
   split at e
   · rename_i h1 he hn
     split at e
     · rename_i yf
       simp at e;obtain ⟨rfl,rfl⟩:=e
       have e1:s'.size=s'.data.toList.length:=by cases s';rfl
       let nc:=(Question.appendCap s'.size 0 el).cut (w.tape w.drawn (.appendCap s'.size 0 el))
       have Jz:s'.size≤nc:=by show s'.size≤s'.size+_;omega
       let C:Array Value:=(s'.data.map fun b=>Value.int .u8 b.toNat)++Array.replicate (nc - s'.size) (.int .u8 0)
       have Jx:C.size=nc:=by
        have e0:s'.size=s'.data.size:=rfl
        have:C.size=s'.data.size+(nc - s'.size):=by simp only[C,Array.size_append,Array.size_map,Array.size_replicate]
        omega
       have uz:(w.drew.alloc (.cells C el)).heap=w.heap.push (.cells C el):=rfl
       have Vr:(w.drew.alloc (.cells C el)).heap[w.heap.size]? =some (.cells C el):=by rw[uz];simp
       obtain ⟨iV,jW,hle⟩:=ok.fresh (w':=(w.drew.alloc (.cells C el)).freeze ⟨w.heap.size,nc,none⟩ 1) hn ⟨w.heap.size,0,nc - s'.size⟩ (by
        refine ⟨C,el,nc,nc+1,Cl Vr,⟨?_,fun k x hk=>?_,fun _ k _ b=>?_,fun _ _ _=>rfl⟩,fun _=>⟨rfl,rfl,fun fs z=>by rw[he] at z;cases z⟩⟩
        · simp only[dy,yf,Option.getD_some,Jx,List.length_map];rw[←e1];omega
        · rw[List.getElem?_map] at hk
          cases hb:s'.data.toList[k]? with
          | none=>rw[hb] at hk;simp at hk
          | some b=>
            rw[hb] at hk;simp at hk;subst hk
            have Yg:k<s'.data.toList.length:=(List.getElem?_eq_some_iff.1 hb).1
            refine ⟨.int .u8 b.toNat,?_,.int _ _⟩
            have:C[0+k]? =(s'.data.map fun b=>Value.int .u8 b.toNat)[k]? :=by
             simp only[C,Nat.zero_add];rw[Array.getElem?_append_left (by simpa using Yg)]
            show C[0+k]? =_
            rw[this]
            rw[Array.getElem?_map]
            have QT:s'.data[k]? =some b:=by simpa using hb
            rw[QT];rfl
        · simp only[dy,yf,Option.getD_some,List.length_map] at b;rw[←e1] at b;omega)
        (fun c cH hc=>by
         rw[Ar (Ne.symm cH),uz,Array.getElem?_push,if_neg (by omega)]) (by rw[Cm,uz];simp) (Nat.le_refl _) rfl rfl rfl
       refine ⟨_,_,.slice (some ⟨w.heap.size,0,none⟩) s'.size nc,?_,?_,iV,jW⟩
       · have Zh:(w.drew.alloc (.cells C el)).shape? w.heap.size=some (el,nc):=by
          simp only[World.shape?,Vr,Jx]
         simp only[convert,Sem.run_bind,run_underlying hs,run_underlying hd,Result.andThen_ok,run_underlying he,Conv.stringToBytes,run_choose,Question.forced,Bool.false_eq_true,if_false,World.drew_eq,newRow,run_newObj,World.alloc_eq,Sem.run_pure,markStringish]
         rw[show (Question.appendCap s'.size 0 el).cut (w.tape w.drawn (Question.appendCap s'.size 0 el))=nc from rfl,show (Array.map (fun b=>Value.int .u8 b.toNat) s'.data++Array.replicate (nc - s'.size) (Value.int .u8 0))=C from rfl]
         simp only[World.size_drew,run_shape,Zh,Result.andThen_ok,run_freeze]
       · have:=VR.slice (φ:=φ.add h.nx ⟨w.heap.size,0,nc - s'.size⟩) (i:=h.nx) (l:=⟨w.heap.size,0,nc - s'.size⟩) 0 s'.size s'.size true (by simp [Ph.add])
         simp only[dx,if_true] at this
         rw[show s'.size+(nc - s'.size)=nc by omega] at this
         exact this
     · simp at e
   · simp at e
 · simp at e
theorem mN {φ:Ph} {v:AV} {v':Value} (hv:VR φ v v') {k':Value}:∀{es:List dY} {dU:List MapEntry} (_:Cc φ es dU) (i:Nat) (_:∀e,es[i]? =some e→VR φ e.key k'),
 Cc φ (b8 es i v) (dU.modify i fun e=>{e with key:=k',val:=v'})
 | [],dU,h,i,_=>by
   cases dU with
   | nil=>simpa [b8] using h
   | cons _ _=>simp [Cc] at h
 | e::es,dU,h,i,hk=>by
   obtain ⟨hl,yp⟩:=h
   cases dU with
   | nil=>simp at hl
   | cons y ys=>
     have h0:=yp 0 e y (by simp) (by simp)
     have kl:Cc φ es ys:=⟨by simpa using hl,fun i a b p q=>yp (i+1) a b (by simpa using p) (by simpa using q)⟩
     cases i with
     | zero=>
       simp only[b8,List.modify_zero_cons]
       refine ⟨by simpa using hl,fun j a b p q=>?_⟩
       cases j with
       | zero=>simp at p q;subst p;subst q;exact ⟨hk e (by simp),hv,h0.born⟩
       | succ j=>simp at p q;exact kl.2 j a b p q
     | succ i=>
       simp only[b8,List.modify_succ_cons]
       obtain ⟨g1,g2⟩:=mN hv kl i (fun e he=>hk e (by simpa using he))
       refine ⟨by simp [g1],fun j a b p q=>?_⟩
       cases j with
       | zero=>simp at p q;subst p;subst q;exact h0
       | succ j=>simp at p;exact g2 j a b p (by simpa using q)
theorem OD (s:ByteArray):(s==s)=true:=by cases s;rename_i d;show (d==d)=true;simp
theorem As {φ:Ph} {k j:AV} (e:yQ k j=some true) {k' j':Value} (h:VR φ k k') (h':VR φ j j'):Instr.sameBits 10000 j' k'=true∧j'=k':=by
 unfold yQ at e
 split at e
 · generalize hs:AV.str _=s at h
   generalize mK:AV.str _=s' at h'
   cases h<;>cases hs
   cases h'<;>cases mK
   rename_i s s'
   simp at e
   have:s'=s:=by cases s;cases s';simp_all
   subst this
   exact ⟨by simp only[Instr.sameBits];exact OD _,rfl⟩
 · cases h;cases h'
   split at e
   · rename_i sA
     simp at e;subst e;subst sA
     exact ⟨by simp [Instr.sameBits],rfl⟩
   · simp at e
 · cases h;cases h'
   simp at e;subst e
   exact ⟨by simp [Instr.sameBits],rfl⟩
 · simp at e
theorem n9 {φ:Ph} {h h':ag} {w:World} (ok:OK E φ h w) {t:TypeId} {m k v:AV} {m' k' v':Value} (hm:VR φ m m') (hk:VR φ k k') (hv:VR φ v v') (e:cQ E h t m k v=some h'):
 ∃w',(Instr.mapUpdate t m' k' v').run E.P w= .ok () w'∧OK E φ h' w'∧Fr φ h w φ h' w':=by
 unfold cQ at e
 split at e
 · rename_i key elem i hu
   cases hm with
   | @map _ l hφ=>
   split at e
   · rename_i es clock hg
     split at e
     · rename_i sA
       have Ap:∃d,E.P.underlying key=some d∧er (some d) k=true:=by
        cases hd:E.P.underlying key with
        | none=>rw[hd] at sA;simp [er] at sA
        | some d=>rw[hd] at sA;exact ⟨d,rfl,sA⟩
       obtain ⟨d,hd,sK⟩:=Ap
       have uQ:=ok.live i _ l hg hφ
       obtain ⟨B7,dU,hb,d_⟩:=uQ
       have tQ:(getObj l.cG).run E.P w= .ok (.map dU clock) w:=by simp [getObj,Sem.run,hb]
       have Ao:=mL (P:=E.P) hd sK hk false 9999 w
       have nN:∀o':Obj,(setObj l.cG o').run E.P w= .ok () {w with heap:=w.heap.setIfInBounds l.cG o'}:=fun o'=>by simp [setObj,Sem.run,hb]
       have Sv:∀(o:aw) (o':Obj),OR E φ o l (some o')→o.rw=true→OK E φ (h.put i (some o)) {w with heap:=w.heap.setIfInBounds l.cG o'}∧Fr φ h w φ (h.put i (some o)) {w with heap:=w.heap.setIfInBounds l.cG o'}:=fun o o' ho ym=>by
        have iv:l.cG<w.heap.size:=by
         rcases Nat.lt_or_ge l.cG w.heap.size with a | a
         · exact a
         · rw[Array.getElem?_eq_none a] at hb;simp at hb
        exact ok.change hg rfl hφ (by simp [iv];exact ho) (fun c cH=>by simp [Ne.symm cH]) (by simp) rfl rfl rfl
       split at e
       · rename_i j v0 hf
         obtain ⟨r',h1,h2⟩:=mf sK hk d_ hf
         cases r' with
         | none=>exact h2.elim
         | some q=>
         obtain ⟨j',v1⟩:=q
         obtain ⟨rfl,yp,_,J2,qp,Cn⟩:=h2
         simp at e;subst e
         obtain ⟨y,hy⟩:∃y,dU.toList[j]? =some y:=by
          have iv:j<es.length:=by simpa using (List.getElem?_eq_some_iff.1 qp).1
          exact ⟨dU.toList[j]'(by rw[←d_.1];exact iv),by simp⟩
         have OE:=d_.2 j J2 y (by simpa using qp) hy
         obtain ⟨OF,J3⟩:=As Cn hk OE.key
         have J4:dU[j]? =some y:=by simpa using hy
         obtain ⟨iV,jW⟩:=Sv (.map (b8 es j v) clock) (.map (dU.modify j fun e=>{e with key:=k',val:=v'}) clock) ⟨B7,_,rfl,by
          have:=mN hv d_ j (k':=k') (fun e he=>by
           have:e=J2:=by
            have h3:es[j]? =some J2:=by simpa using qp
            rw[h3] at he;simp at he;exact he.symm
           subst this;rw[←J3];exact OE.key)
          simpa using this⟩ rfl
         refine ⟨_,?_,iV,jW⟩
         simp only[Instr.mapUpdate,Sem.run_bind,run_underlying hu,Result.andThen_ok,tQ,Ao,Instr.findKey,run_underlying hd,h1,Sem.run_pure,J4,Option.map_some,Option.getD_some,Instr.keyThatStays,OF,if_true,nN _]
       · rename_i hf
         obtain ⟨r',h1,h2⟩:=mf sK hk d_ hf
         cases r' with
         | some q=>exact h2.elim
         | none=>
         simp at e;subst e
         obtain ⟨iV,jW⟩:=Sv (.map (es++[{key:=k,val:=v,born:=clock}]) (clock+1)) (.map (dU.push {key:=k',val:=v',born:=clock}) (clock+1)) ⟨B7,_,rfl,by
          refine ⟨by simp [d_.1],fun j a b p q=>?_⟩
          rw[Array.toList_push] at q
          by_cases hj:j<es.length
          · rw[List.getElem?_append_left hj] at p
            rw[List.getElem?_append_left (by rw[←d_.1];exact hj)] at q
            exact d_.2 j a b p q
          · rw[List.getElem?_append_right (by omega)] at p
            rw[List.getElem?_append_right (by rw[←d_.1];omega),←d_.1] at q
            cases QV:j - es.length with
            | zero=>rw[QV] at p q;simp at p q;subst p;subst q;exact ⟨hk,hv,rfl⟩
            | succ n=>rw[QV] at p;simp at p⟩ rfl
         refine ⟨_,?_,iV,jW⟩
         simp only[Instr.mapUpdate,Sem.run_bind,run_underlying hu,Result.andThen_ok,tQ,Ao,Instr.findKey,run_underlying hd,h1,Sem.run_pure,nN _]
       · simp at e
     · split at e
       · rename_i sA
         have Ap:∃d,E.P.underlying key=some d∧fh E (some d) k=true:=by
          cases hd:E.P.underlying key with
          | none=>rw[hd] at sA;simp [fh] at sA
          | some d=>rw[hd] at sA;exact ⟨d,rfl,sA⟩
         obtain ⟨d,hd,sK⟩:=Ap
         have uQ:=ok.live i _ l hg hφ
         obtain ⟨B7,dU,hb,d_⟩:=uQ
         have tQ:(getObj l.cG).run E.P w= .ok (.map dU clock) w:=by simp [getObj,Sem.run,hb]
         have Ao:=lD hd sK hk false 9998 w
         have nN:∀o':Obj,(setObj l.cG o').run E.P w= .ok () {w with heap:=w.heap.setIfInBounds l.cG o'}:=fun o'=>by simp [setObj,Sem.run,hb]
         have Sv:∀(o:aw) (o':Obj),OR E φ o l (some o')→o.rw=true→OK E φ (h.put i (some o)) {w with heap:=w.heap.setIfInBounds l.cG o'}∧Fr φ h w φ (h.put i (some o)) {w with heap:=w.heap.setIfInBounds l.cG o'}:=fun o o' ho ym=>by
          have iv:l.cG<w.heap.size:=by
           rcases Nat.lt_or_ge l.cG w.heap.size with a | a
           · exact a
           · rw[Array.getElem?_eq_none a] at hb;simp at hb
          exact ok.change hg rfl hφ (by simp [iv];exact ho) (fun c cH=>by simp [Ne.symm cH]) (by simp) rfl rfl rfl
         split at e
         · rename_i j v0 hf
           obtain ⟨r',h1,h2⟩:=iW hk d_ hf
           cases r' with
           | none=>exact h2.elim
           | some q=>
           obtain ⟨j',v1⟩:=q
           obtain ⟨rfl,yp,_,J2,qp,Cn⟩:=h2
           simp at e;subst e
           obtain ⟨y,hy⟩:∃y,dU.toList[j]? =some y:=by
            have iv:j<es.length:=by simpa using (List.getElem?_eq_some_iff.1 qp).1
            exact ⟨dU.toList[j]'(by rw[←d_.1];exact iv),by simp⟩
           have OE:=d_.2 j J2 y (by simpa using qp) hy
           obtain ⟨OF,J3⟩:=Cn hk OE.key
           have J4:dU[j]? =some y:=by simpa using hy
           obtain ⟨iV,jW⟩:=Sv (.map (b8 es j v) clock) (.map (dU.modify j fun e=>{e with key:=k',val:=v'}) clock) ⟨B7,_,rfl,by
            have:=mN hv d_ j (k':=k') (fun e he=>by
             have:e=J2:=by
              have h3:es[j]? =some J2:=by simpa using qp
              rw[h3] at he;simp at he;exact he.symm
             subst this;rw[←J3];exact OE.key)
            simpa using this⟩ rfl
           refine ⟨_,?_,iV,jW⟩
           simp only[Instr.mapUpdate,Sem.run_bind,run_underlying hu,Result.andThen_ok,tQ,Ao,gL hd sK hk (h1 w),Sem.run_pure,J4,Option.map_some,Option.getD_some,Instr.keyThatStays,OF,if_true,nN _]
         · rename_i hf
           obtain ⟨r',h1,h2⟩:=iW hk d_ hf
           cases r' with
           | some q=>exact h2.elim
           | none=>
           simp at e;subst e
           obtain ⟨iV,jW⟩:=Sv (.map (es++[{key:=k,val:=v,born:=clock}]) (clock+1)) (.map (dU.push {key:=k',val:=v',born:=clock}) (clock+1)) ⟨B7,_,rfl,by
            refine ⟨by simp [d_.1],fun j a b p q=>?_⟩
            rw[Array.toList_push] at q
            by_cases hj:j<es.length
            · rw[List.getElem?_append_left hj] at p
              rw[List.getElem?_append_left (by rw[←d_.1];exact hj)] at q
              exact d_.2 j a b p q
            · rw[List.getElem?_append_right (by omega)] at p
              rw[List.getElem?_append_right (by rw[←d_.1];omega),←d_.1] at q
              cases QV:j - es.length with
              | zero=>rw[QV] at p q;simp at p q;subst p;subst q;exact ⟨hk,hv,rfl⟩
              | succ n=>rw[QV] at p;simp at p⟩ rfl
           refine ⟨_,?_,iV,jW⟩
           simp only[Instr.mapUpdate,Sem.run_bind,run_underlying hu,Result.andThen_ok,tQ,Ao,gL hd sK hk (h1 w),Sem.run_pure,nN _]
         · simp at e
       · simp at e
   · simp at e
 · simp at e
theorem At {φ:Ph} {k':Value} {es:List dY} {dU:List MapEntry} (h:Cc φ es dU) (i:Nat) (hk:∀e,es[i]? =some e→VR φ e.key k'):
 Cc φ es (dU.modify i fun e=>{e with key:=k'}):=by
 obtain ⟨hl,hv⟩:=h
 refine ⟨by rw[List.length_modify];exact hl,fun j a b p q=>?_⟩
 rw[List.getElem?_modify] at q
 by_cases e:i=j
 · subst e
   cases hb:dU[i]? with
   | none=>rw[hb] at q;simp at q
   | some y=>
     rw[hb] at q;simp at q;subst q
     have r:=hv i a y p hb
     exact ⟨hk a p,r.val,r.born⟩
 · have q':dU[j]? =some b:=by simpa [e] using q
   exact hv j a b p q'
theorem rn:∀(es:List dY) (i j:Nat) (v:AV),(b8 es i v)[j]? =if i=j then (es[j]?).map (fun e=>{e with val:=v}) else es[j]?
 | [],i,j,v=>by cases i<;>simp [b8]
 | e::es,0,0,v=>by simp [b8]
 | e::es,0,j+1,v=>by simp [b8]
 | e::es,i+1,0,v=>by simp [b8]
 | e::es,i+1,j+1,v=>by simp [b8,rn es i j v]
theorem nB:∀(es:List dY) (i:Nat) (v:AV),(b8 es i v).length=es.length
 | [],i,v=>by cases i<;>simp [b8]
 | e::es,0,v=>by simp [b8]
 | e::es,i+1,v=>by simp [b8,nB es i v]
theorem Ff {φ:Ph} {v:AV} {v':Value} (hv:VR φ v v') {es:List dY} {dU:List MapEntry} (h:Cc φ es dU) (i:Nat):
 Cc φ (b8 es i v) (dU.modify i fun e=>{e with val:=v'}):=by
 obtain ⟨hl,yp⟩:=h
 refine ⟨by rw[List.length_modify,nB];exact hl,fun j a b p q=>?_⟩
 rw[List.getElem?_modify] at q
 rw[rn] at p
 by_cases e:i=j
 · subst e
   cases hb:dU[i]? with
   | none=>rw[hb] at q;simp at q
   | some y=>
     rw[hb] at q;simp at q;subst q
     cases ha:es[i]? with
     | none=>rw[ha] at p;simp at p
     | some x=>
       rw[ha] at p;simp at p;subst p
       have r:=yp i x y ha hb
       exact ⟨r.key,hv,r.born⟩
 · have q':dU[j]? =some b:=by simpa [e] using q
   have p':es[j]? =some a:=by simpa [e] using p
   exact yp j a b p' q'
theorem OK.Fl {φ:Ph} {h:ag} {w:World} (ok:OK E φ h w) {i:Nat} {es es2:List dY} {clock clock2:Nat} {Ik:Array MapEntry} {l:Loc} {O:Obj} (hg:h.get i=some (.map es clock)) (hφ:φ i=some l) (B7:l.off=0) (hb:w.heap[l.cG]? =some O) (he:Cc φ es2 Ik.toList):
 OK E φ (h.put i (some (.map es2 clock2))) {w with heap:=w.heap.setIfInBounds l.cG (.map Ik clock2)}∧Fr φ h w φ (h.put i (some (.map es2 clock2))) {w with heap:=w.heap.setIfInBounds l.cG (.map Ik clock2)}:=by
 have iv:l.cG<w.heap.size:=by
  rcases Nat.lt_or_ge l.cG w.heap.size with a | a
  · exact a
  · rw[Array.getElem?_eq_none a] at hb;simp at hb
 exact ok.change hg rfl hφ (by simp [iv];exact ⟨B7,_,rfl,he⟩) (fun c cH=>by simp [Ne.symm cH]) (by simp) rfl rfl rfl
theorem yr {φ:Ph} {h h':ag} {w:World} (ok:OK E φ h w) {t:TypeId} {m k v:AV} {m' k':Value} (hm:VR φ m m') (hk:VR φ k k') (e:j5 E h t m k=some (v,h')):
 E6 E φ h w ((Instr.mapEntry t m' k').run E.P w) v h':=by
 unfold j5 at e
 split at e
 · rename_i key elem i hu
   cases hm with
   | @map _ l hφ=>
   split at e
   · rename_i es clock hg
     split at e
     · rename_i sA
       have Ap:∃d,E.P.underlying key=some d∧fh E (some d) k=true:=by
        cases hd:E.P.underlying key with
        | none=>rw[hd] at sA;simp [fh] at sA
        | some d=>rw[hd] at sA;exact ⟨d,rfl,sA⟩
       obtain ⟨d,hd,sK⟩:=Ap
       have uQ:=ok.live i _ l hg hφ
       obtain ⟨B7,dU,hb,d_⟩:=uQ
       have tQ:(getObj l.cG).run E.P w= .ok (.map dU clock) w:=by simp [getObj,Sem.run,hb]
       have Ao:=lD hd sK hk false 9998 w
       have nN:∀o':Obj,(setObj l.cG o').run E.P w= .ok () {w with heap:=w.heap.setIfInBounds l.cG o'}:=fun o'=>by simp [setObj,Sem.run,hb]
       split at e
       · rename_i j v0 hf
         obtain ⟨r',h1,h2⟩:=iW hk d_ hf
         cases r' with
         | none=>exact h2.elim
         | some q=>
         obtain ⟨j',v1⟩:=q
         obtain ⟨rfl,yp,_,J2,qp,Cn⟩:=h2
         have GU:es[j]? =some J2:=by simpa using qp
         rw[GU] at e
         simp at e;obtain ⟨rfl,rfl⟩:=e
         obtain ⟨y,hy⟩:∃y,dU.toList[j]? =some y:=by
          have iv:j<es.length:=by simpa using (List.getElem?_eq_some_iff.1 GU).1
          exact ⟨dU.toList[j]'(by rw[←d_.1];exact iv),by simp⟩
         have OE:=d_.2 j J2 y GU hy
         obtain ⟨OF,J3⟩:=Cn hk OE.key
         have J4:dU[j]? =some y:=by simpa using hy
         obtain ⟨iV,jW⟩:=ok.Fl (Ik:=dU.modify j fun e=>{e with key:=k'}) (clock2:=clock) hg hφ B7 hb (by
          have:=At d_ j (k':=k') (fun e he=>by
           have:e=J2:=by rw[GU] at he;simp at he;exact he.symm
           subst this;rw[←J3];exact OE.key)
          simpa using this)
         refine ⟨φ,_,.tuple #[v1,goInt y.born],?_,VR.tuple' (LR.cons yp (LR.cons (by rw[←OE.born];exact .int _ _) (LR.nil φ))),iV,jW⟩
         simp only[Instr.mapEntry,Sem.run_bind,run_underlying hu,Result.andThen_ok,tQ,Ao,gL hd sK hk (h1 w),Sem.run_pure,J4,Option.map_some,Option.getD_some,Instr.keyThatStays,OF,if_true,nN _]
       · rename_i hf
         obtain ⟨r',h1,h2⟩:=iW hk d_ hf
         cases r' with
         | some q=>exact h2.elim
         | none=>
         split at e
         · rename_i z hz
           simp at e;obtain ⟨rfl,rfl⟩:=e
           obtain ⟨z',sy,f'⟩:=eQ hz
           obtain ⟨iV,jW⟩:=ok.Fl (Ik:=dU.push {key:=k',val:=z',born:=clock}) (clock2:=clock+1) (es2:=es++[{key:=k,val:=z,born:=clock}]) hg hφ B7 hb (by
            refine ⟨by simp [d_.1],fun j a b p q=>?_⟩
            rw[Array.toList_push] at q
            by_cases hj:j<es.length
            · rw[List.getElem?_append_left hj] at p
              rw[List.getElem?_append_left (by rw[←d_.1];exact hj)] at q
              exact d_.2 j a b p q
            · rw[List.getElem?_append_right (by omega)] at p
              rw[List.getElem?_append_right (by rw[←d_.1];omega),←d_.1] at q
              cases QV:j - es.length with
              | zero=>rw[QV] at p q;simp at p q;subst p;subst q;exact ⟨hk,sy φ,rfl⟩
              | succ n=>rw[QV] at p;simp at p)
           refine ⟨φ,_,.tuple #[z',goInt clock],?_,VR.tuple' (LR.cons (sy φ) (LR.cons (.int _ _) (LR.nil φ))),iV,jW⟩
           simp only[Instr.mapEntry,Sem.run_bind,run_underlying hu,Result.andThen_ok,tQ,Ao,gL hd sK hk (h1 w),Sem.run_pure,f',nN _]
         · simp at e
       · simp at e
     · simp at e
   · simp at e
 · simp at e
theorem Il {φ:Ph} {es:List dY} {dU:List MapEntry} (h:Cc φ es dU) (p:Int→Bool):dU.findIdx? (fun e=>p (e.born:Int))=es.findIdx? (fun e=>p (e.born:Int)):=by
 have hm:dU.map (fun e=>(e.born:Int))=es.map (fun e=>(e.born:Int)):=by
  apply List.ext_getElem?
  intro j
  rw[List.getElem?_map,List.getElem?_map]
  by_cases hj:j<es.length
  · have h1:es[j]? =some es[j]:=by simp [hj]
    have j6:j<dU.length:=by rw[←h.1];exact hj
    have h2:dU[j]? =some dU[j]:=by simp [j6]
    rw[h1,h2,Option.map_some,Option.map_some,(h.2 j _ _ h1 h2).born]
  · rw[List.getElem?_eq_none (by rw[←h.1];omega),List.getElem?_eq_none (by omega)];rfl
 have a:=congrArg (List.findIdx? p) hm
 rw[List.findIdx?_map,List.findIdx?_map] at a
 exact a
theorem uA {φ:Ph} {h h':ag} {w:World} (ok:OK E φ h w) {t:TypeId} {m s x:AV} {m' s' x':Value} (hm:VR φ m m') (hs:VR φ s s') (hx:VR φ x x') (e:eY h m s x=some h'):
 ∃w',(Instr.entryStore t m' s' x').run E.P w= .ok () w'∧OK E φ h' w'∧Fr φ h w φ h' w':=by
 unfold eY at e
 split at e
 · rename_i i kd n
   cases hm with
   | @map _ l hφ=>
   cases hs with
   | int=>
   split at e
   · rename_i es clock hg
     split at e
     · rename_i j hj
       simp at e;subst e
       obtain ⟨B7,dU,hb,d_⟩:=ok.live i _ l hg hφ
       have tQ:(getObj l.cG).run E.P w= .ok (.map dU clock) w:=by simp [getObj,Sem.run,hb]
       have nN:∀o':Obj,(setObj l.cG o').run E.P w= .ok () {w with heap:=w.heap.setIfInBounds l.cG o'}:=fun o'=>by simp [setObj,Sem.run,hb]
       have j6:dU.findIdx? (fun e=>(e.born:Int)==n)=some j:=by
        have:=Il d_ (fun b=>b==n)
        rw[hj] at this
        cases dU;rw[List.findIdx?_toArray];exact this
       obtain ⟨iV,jW⟩:=ok.Fl (Ik:=dU.modify j fun e=>{e with val:=x'}) (clock2:=clock) hg hφ B7 hb (by
        have:=Ff hx d_ j
        simpa using this)
       refine ⟨_,?_,iV,jW⟩
       have e0:(Instr.entryStore t (.map (some l.cG)) (.int kd n) x').run E.P w=(setObj l.cG (.map (dU.modify j fun e=>{e with val:=x'}) clock)).run E.P w:=by
        have ha:(asInt (.int kd n)).run E.P w= .ok n w:=rfl
        simp only[Instr.entryStore,Sem.run_bind,Result.andThen_ok,tQ,ha,Sem.run_pure,j6]
       rw[e0];exact nN _
     · simp at e
   · simp at e
 · simp at e
theorem Au {s:ByteArray} {pos:Nat} {b:UInt8} (h:s.data.toList[pos]? =some b) (hb:b.toNat<128):Utf8.decode s pos=(b.toNat,1):=by
 have hl:pos<s.size:=(List.getElem?_eq_some_iff.1 h).1
 have QT:s[pos]'hl=b:=by
  have:=(List.getElem?_eq_some_iff.1 h).2
  rw[←this];rfl
 rw[decode_ascii s pos hl (by rw[QT];exact hb),QT]
set_option linter.unusedSimpArgs false in
theorem Im {φ:Ph} {h h':ag} {w:World} (ok:OK E φ h w) {it v:AV} {b:Bool} (e:yR h it b=some (v,h')) {it':Value} (hit:VR φ it it') (ty:TypeId):
 E6 E φ h w ((Instr.next it' b ty).run E.P w) v h':=by
 unfold yR at e
 split at e
 · rename_i r
   cases hit with
   | @ptr _ l _ hφ=>
   split at e
   · rename_i s pos hg
     have uQ:=ok.live r _ l hg hφ
     obtain ⟨B7,s',hb,mK⟩:=uQ
     have tQ:(getObj l.cG).run E.P w= .ok (.stringIter s' pos) w:=by simp [getObj,Sem.run,hb]
     have e1:s'.size=s.length:=by rw[←mK];cases s';rfl
     split at e
     · rename_i iv
       split at e
       · rename_i c hc
         split at e
         · rename_i Zj
           simp at e;obtain ⟨rfl,rfl⟩:=e
           have nN:(setObj l.cG (.stringIter s' (pos+1))).run E.P w= .ok () {w with heap:=w.heap.setIfInBounds l.cG (.stringIter s' (pos+1))}:=by simp [setObj,Sem.run,hb]
           have Zk:l.cG<w.heap.size:=by
            rcases Nat.lt_or_ge l.cG w.heap.size with a | a
            · exact a
            · rw[Array.getElem?_eq_none a] at hb;simp at hb
           obtain ⟨iV,jW⟩:=ok.change (w':={w with heap:=w.heap.setIfInBounds l.cG (.stringIter s' (pos+1))}) (o':= .pX s (pos+1)) hg rfl hφ (by simp [Zk];exact ⟨B7,s',rfl,mK⟩) (fun c cH=>by simp [Array.getElem?_setIfInBounds,Ne.symm cH]) (by simp) rfl rfl rfl
           refine ⟨φ,_,.tuple #[.bool true,.int .i64 pos,.int .i32 c.toNat],?_,VR.tuple' (eE:=[.bool true,.int .i64 pos,.int .i32 c.toNat]) (.cons (.bool true) (.cons (.int _ _) (.cons (.int _ _) (.nil φ)))),iV,jW⟩
           have Zl:=Au (s:=s') (pos:=pos) (b:=c) (by rw[mK];exact hc) Zj
           have h0:l.off+0=0:=by omega
           simp only[Instr.next,h0,Sem.run_bind,tQ,Result.andThen_ok,e1,iv,if_true,Zl,nN,Sem.run_pure,goInt]
         · simp at e
       · simp at e
     · rename_i iv
       simp at e;obtain ⟨rfl,rfl⟩:=e
       refine ⟨φ,w,.tuple #[.bool false],?_,VR.tuple' (eE:=[.bool false]) (.cons (.bool false) (.nil φ)),ok,Fr.refl φ h w⟩
       have h0:l.off+0=0:=by omega
       simp only[Instr.next,h0,Sem.run_bind,tQ,Result.andThen_ok,e1,iv,if_false,Sem.run_pure]
   · rename_i s1 s2 s3 hg
     have uQ:=ok.live r _ l hg hφ
     obtain ⟨B7,hb⟩:=uQ
     have tQ:(getObj l.cG).run E.P w= .ok (.mapIter none s1 s2.toArray s3) w:=by simp [getObj,Sem.run,hb]
     simp at e;obtain ⟨rfl,rfl⟩:=e
     refine ⟨φ,w,.tuple #[.bool false],?_,VR.tuple' (eE:=[.bool false]) (.cons (.bool false) (.nil φ)),ok,Fr.refl φ h w⟩
     have h0:l.off+0=0:=by omega
     simp only[Instr.next,h0,Sem.run_bind,tQ,Result.andThen_ok,Sem.run_pure]
   · simp at e
 · simp at e
end Go.Ab
end
section
namespace Go.Ab
variable {E:Env}
def DR (φ:Ph):kb→Deferred→Prop
 | .call f args,d'=>∃cap,d'.target= .fn (.func f) cap∧LR φ args (d'.args++cap).toList
 | .UA r,d'=>∃l,φ r=some l∧d'.target= .collected l.cG
def QW (φ:Ph):List kb→List Deferred→Prop
 | [],[]=>True
 | d::ds,d'::sL=>DR φ d d'∧QW φ ds sL
 | _,_=>False
theorem DR.mono {φ φ':Ph} (hle:φ.le φ') {d:kb} {d':Deferred} (h:DR φ d d'):DR φ' d d':=by
 cases d with
 | call f args=>obtain ⟨c,a,b⟩:=h;exact ⟨c,a,b.mono hle⟩
 | UA r=>obtain ⟨l,a,b⟩:=h;exact ⟨l,hle _ _ a,b⟩
theorem QW.mono {φ φ':Ph} (hle:φ.le φ'):∀{ds:List kb} {sL:List Deferred} (_:QW φ ds sL),QW φ' ds sL
 | [],[],_=>trivial
 | _::_,_::_,h=>⟨h.1.mono hle,QW.mono hle h.2⟩
structure SR (φ:Ph) (ts:List AV) (ds:List kb) (a:Act):Prop where
 ts:LR φ ts a.tmps.toList
 ds:QW φ ds a.defers
theorem SR.mono {φ φ':Ph} (hle:φ.le φ') {ts:List AV} {ds:List kb} {a:Act} (h:SR φ ts ds a):SR φ' ts ds a:=⟨h.ts.mono hle,h.ds.mono hle⟩
def jF (φ:Ph) (b:Frame) (K:Bool→List Frame):RC→Prop
 | .no=>b.roundOf=none∧∀fr:Frame,fr.kind=b.kind→tryRecover fr (K false)=none
 | .fH v=>b.roundOf=none∧(∃v',VR φ v v'∧∀fr:Frame,fr.kind=b.kind→tryRecover fr (K false)=some (v',K true))∧∀fr:Frame,fr.kind=b.kind→tryRecover fr (K true)=none
 | .done=>b.roundOf=none∧∀fr:Frame,fr.kind=b.kind→tryRecover fr (K true)=none
 | .B6 l=>∃ll,φ l=some ll∧b.roundOf=some ll.cG
def cur (K:Bool→List Frame):RC→List Frame
 | .done=>K true
 | _=>K false
def RC.ko:RC→Bool
 | .B6 _=>true
 | _=>false
theorem jF.mono {φ φ':Ph} (hle:φ.le φ') {b:Frame} {K:Bool→List Frame}:∀{rc:RC} (_:jF φ b K rc),jF φ' b K rc
 | .no,h=>h
 | .fH _,h=>let ⟨n,⟨v',a,b⟩,c⟩:=h;⟨n,⟨v',a.mono hle,b⟩,c⟩
 | .done,h=>h
 | .B6 _,h=>let ⟨l,a,b⟩:=h;⟨l,hle _ _ a,b⟩
theorem jF.plain {φ:Ph} {b:Frame} {K:Bool→List Frame} {rc:RC} (h:jF φ b K rc) (hn:rc.ko=false):b.roundOf=none:=by
 cases rc with
 | no=>exact h.1
 | fH v=>exact h.1
 | done=>exact h.1
 | B6 l=>simp [RC.ko] at hn
inductive Sw (φ:Ph):gR→Exit→Prop
 | normal:Sw φ .normal .normal
 | exit (id:Nat):Sw φ (.exit id) (.exit id)
 | ret:Sw φ .ret .ret
 | panic (v:AV) (v':Value) (h:VR φ v v'):Sw φ (.panic v) (.panic [{v:=v',recovered:=false}])
def fI (E:Env) (f:FuncId) (args:List AV) (h:ag) (v:AV) (h':ag):Prop:=
 ∀(φ:Ph) (w:World) (vs:List Value),OK E φ h w→LR φ args vs→(callFunc f vs.toArray).run E.P w= .ok (.enter f vs.toArray) w∧
  ∀cs,∃φ' w' v' fr,VR φ' v v'∧OK E φ' h' w'∧Fr φ h w φ' h' w'∧
   Steps E.P (lone (Frame.enter E.P f vs.toArray .normal) cs w) (lone fr cs w')∧fr.fn=f∧fr.leaving E.P w' (.returned v')
def GV (E:Env) (f:FuncId) (args:List AV) (h:ag) (v:AV) (h':ag):Prop:=
 ∀(φ:Ph) (w:World) (vs:List Value),OK E φ h w→LR φ args vs→(callFunc f vs.toArray).run E.P w= .ok (.enter f vs.toArray) w∧
  ∀cs,∃φ' w' v' fr,VR φ' v v'∧OK E φ' h' w'∧Fr φ h w φ' h' w'∧
   Steps E.P (lone (Frame.enter E.P f vs.toArray .normal) cs w) (lone fr cs w')∧fr.fn=f∧fr.leaving E.P w' (.panicked [{v:=v',recovered:=false}])
inductive kq (E:Env) (φ:Ph) (w:World):Fn→List Value→Next→Frame→Prop
 | fn (f:FuncId) (vs:List Value) (hr:(callFunc f vs.toArray).run E.P w= .ok (.enter f vs.toArray) w):kq E φ w (.fn f) vs (.enter f vs.toArray) (Frame.enter E.P f vs.toArray .normal)
 | tK (l:Nat) (ll:Loc) (hl:φ l=some ll) (vs:List Value) (f:FuncId) (tmps:Array Value) (assign body:Code) (hr:(Instr.yield ll.cG vs.toArray).run E.P w= .ok (.round ll.cG f tmps assign body) w):
  kq E φ w (.tK l) vs (.round ll.cG f tmps assign body) (Frame.round ll.cG f tmps assign body .normal)
def J5 (φ:Ph):Fn→Prop
 | .fn _=>True
 | .tK l=>∃ll,φ l=some ll
def Fm (E:Env) (F:Fn) (args:List AV) (h:ag) (v:AV) (h':ag):Prop:=
 ∀(φ:Ph) (w:World) (vs:List Value),OK E φ h w→J5 φ F→LR φ args vs→∃n start,kq E φ w F vs n start∧
  ∀c cs,∃φ' w' v',VR φ' v v'∧OK E φ' h' w'∧Fr φ h w φ' h' w'∧Steps E.P (lone start (c::cs) w) (lone (c.finish v') cs w')
def Fo (E:Env) (F:Fn) (args:List AV) (h:ag) (v:AV) (h':ag):Prop:=
 ∀(φ:Ph) (w:World) (vs:List Value),OK E φ h w→J5 φ F→LR φ args vs→∃n start,kq E φ w F vs n start∧
  ∀c cs,∃φ' w' v',VR φ' v v'∧OK E φ' h' w'∧Fr φ h w φ' h' w'∧Steps E.P (lone start (c::cs) w) (lone (c.raise [{v:=v',recovered:=false}]) cs w')
theorem fI.any {f:FuncId} {args:List AV} {h:ag} {v:AV} {h':ag} (r:fI E f args h v h'):Fm E (.fn f) args h v h':=fun φ w vs ok _ hl=>by
 obtain ⟨h1,h2⟩:=r φ w vs ok hl
 refine ⟨_,_,.fn f vs h1,fun c cs=>?_⟩
 obtain ⟨φ',w',v',fr,x1,x2,x3,x4,_,x5⟩:=h2 (c::cs)
 exact ⟨φ',w',v',x1,x2,x3,x4.trans (.one (step_leave_returned x5))⟩
theorem GV.any {f:FuncId} {args:List AV} {h:ag} {v:AV} {h':ag} (r:GV E f args h v h'):Fo E (.fn f) args h v h':=fun φ w vs ok _ hl=>by
 obtain ⟨h1,h2⟩:=r φ w vs ok hl
 refine ⟨_,_,.fn f vs h1,fun c cs=>?_⟩
 obtain ⟨φ',w',v',fr,x1,x2,x3,x4,_,x5⟩:=h2 (c::cs)
 exact ⟨φ',w',v',x1,x2,x3,x4.trans (.one (step_leave_panicked x5))⟩
structure eR (E:Env) (call:aB):Prop where
 ret:∀f args h v h',call f args h= .ret v h'→Fm E f args h v h'
 panic:∀f args h v h',call f args h= .panic v h'→Fo E f args h v h'
structure hS (E:Env):Prop where
 ext:QS E
 ff:∀f g,E.ff f=some g→∀args h v h',g args h=some (v,h')→fI E f args h v h'
 names:∀(f:FuncId) (fn:Func),E.P.funcs[f]? =some fn→fn.name≠ "runtime.NumGoroutine"
 mixed:E.P.follows .mixedOrders=true
theorem J6 {φ:Ph} {ts:List AV} {a:Act} (h:LR φ ts a.tmps.toList) (d:Option Tmp) {v:AV} {v':Value} (hv:VR φ v v'):LR φ (cA ts d v) (a.put d v').tmps.toList:=by
 cases d with
 | none=>exact h
 | some d=>simp only[cA,Act.put,Array.toList_setIfInBounds];exact h.set hv d
theorem put_defers (a:Act) (d:Option Tmp) (v:Value):(a.put d v).defers=a.defers:=by cases d<;>rfl
theorem SR.put {φ:Ph} {ts:List AV} {ds:List kb} {a:Act} (h:SR φ ts ds a) (d:Option Tmp) {v:AV} {v':Value} (hv:VR φ v v'):SR φ (cA ts d v) ds (a.put d v'):=
 ⟨J6 h.ts d hv,by rw[put_defers];exact h.ds⟩
theorem qq {φ:Ph} {ops:Array Oper} {ts:List AV} {a:Act} (h:LR φ ts a.tmps.toList) (o:Oper):Region.wanted o (yielded ops a.tmps)=bE ops ts o:=by
 unfold Region.wanted bE
 cases o.guard with
 | none=>rfl
 | some g=>
   obtain ⟨j,want⟩:=g
   simp only[yielded]
   cases hd:(ops[j]?).bind (·.dst) with
   | none=>simp
   | some d=>
     simp only[Option.bind_some]
     cases hx:ts[d]? with
     | none=>
       have:a.tmps[d]? =none:=by
        have h1:=List.getElem?_eq_none_iff.1 hx
        rw[h.1] at h1
        have:=List.getElem?_eq_none_iff.2 h1
        simpa using this
       simp [this]
     | some x=>
       obtain ⟨y,hy,hv⟩:=h.get hx
       have J4:a.tmps[d]? =some y:=by simpa using hy
       rw[J4]
       cases hv with
       | any _ h=>cases y<;>first | (simp;done) | cases h
       | _=>simp
section
variable {b:Frame} {a:Act} {k:List Item} {cs:List Frame} {w:World} {ops:Array Oper} {i:Nat} {rest:List Nat} {o:Oper}
theorem py (ho:ops[i]? =some o) (v:Value):(b.atR a (.inRegion ops (i::rest)::k)).finish v=b.atR (a.put o.dst v) (.inRegion ops rest::k):=by
 rw[Frame.finish_atR,ho];rfl
theorem jm {P:Program} (ie:o.semAt b.roundOf a.eval=execOp a.eval o) (ho:ops[i]? =some o) (hw:Region.wanted o (yielded ops a.tmps)=true) {v:Value} {w':World} (hr:(execOp a.eval o).run P w= .ok (.value v) w'):
 step P (lone (b.atR a (.inRegion ops (i::rest)::k)) cs w)= .next (lone (b.atR (a.put o.dst v) (.inRegion ops rest::k)) cs w'):=by
 rw[←py ho]
 exact step_lone_go (by rw[stepGR_op (rest:=rest) ho hw,ie];simp [stepG.apply,hr])
theorem Co {P:Program} (ie:o.semAt b.roundOf a.eval=execOp a.eval o) (ho:ops[i]? =some o) (hw:Region.wanted o (yielded ops a.tmps)=true) {w':World} (hr:(execOp a.eval o).run P w= .ok .skip w'):
 step P (lone (b.atR a (.inRegion ops (i::rest)::k)) cs w)= .next (lone (b.atR (a.put o.dst undef) (.inRegion ops rest::k)) cs w'):=by
 rw[←py ho]
 exact step_lone_go (by rw[stepGR_op (rest:=rest) ho hw,ie];simp [stepG.apply,hr])
theorem go_enter {φ:Ph} (ie:o.semAt b.roundOf a.eval=execOp a.eval o) (ho:ops[i]? =some o) (hw:Region.wanted o (yielded ops a.tmps)=true) {F:Fn} {vs:List Value} {n:Next} {start:Frame} (hp:kq E φ w F vs n start) (hr:(execOp a.eval o).run E.P w= .ok n w):
 step E.P (lone (b.atR a (.inRegion ops (i::rest)::k)) cs w)= .next (lone start (b.atR a (.inRegion ops (i::rest)::k)::cs) w):=by
 cases hp with
 | fn f vs _=>exact step_lone_go (by rw[stepGR_op (rest:=rest) ho hw,ie];simp [stepG.apply,hr,Frame.atR])
 | tK l ll hl vs f tmps assign body _=>exact step_lone_go (by rw[stepGR_op (rest:=rest) ho hw,ie];simp [stepG.apply,hr,Frame.atR])
theorem J7 {P:Program} (ie:o.semAt b.roundOf a.eval=execOp a.eval o) (ho:ops[i]? =some o) (hw:Region.wanted o (yielded ops a.tmps)=true) {v:Value} {w':World} (hr:(execOp a.eval o).run P w= .halt (.panic v) w'):
 step P (lone (b.atR a (.inRegion ops (i::rest)::k)) cs w)= .next (lone {b.atR a (.inRegion ops (i::rest)::k) with mode:= .panicking [{v,recovered:=false}]} cs w'):=by
 rw[←Frame.raise_atR]
 exact step_lone_go (by rw[stepGR_op (rest:=rest) ho hw,ie];simp [stepG.apply,hr])
theorem Io {P:Program} (ie:o.semAt b.roundOf a.eval=execOp a.eval o) (ho:ops[i]? =some o) (hw:Region.wanted o (yielded ops a.tmps)=true) {d:Deferred} {w':World} (hr:(execOp a.eval o).run P w= .ok (.defer d) w'):
 step P (lone (b.atR a (.inRegion ops (i::rest)::k)) cs w)= .next (lone (b.atR ({a with defers:=d::a.defers}.put o.dst undef) (.inRegion ops rest::k)) cs w'):=by
 have:({b.atR a (.inRegion ops (i::rest)::k) with defers:=d::a.defers}:Frame).finish undef=
  b.atR ({a with defers:=d::a.defers}.put o.dst undef) (.inRegion ops rest::k):=by
  have:=Frame.finish_atR b {a with defers:=d::a.defers} ops i rest k undef
  rw[ho] at this;exact this
 refine step_lone_go ?_
 rw[stepGR_op (rest:=rest) ho hw,ie]
 simp only[stepG.apply,Sem.runT_eq,hr,GStep.bare_after]
 exact congrArg (fun fr=>GStep.go {frame:=fr,callers:=cs,status:= .running,dying:=none} w') this
theorem Fq {P:Program} (sM:b.roundOf=none) (ie:o.semAt b.roundOf a.eval=execOp a.eval o) (ho:ops[i]? =some o) (hw:Region.wanted o (yielded ops a.tmps)=true) {w':World} (hr:(execOp a.eval o).run P w= .ok .recover w') {v:Value} {eE:List Frame}
 (ht:tryRecover (b.atR a (.inRegion ops (i::rest)::k)) cs=some (v,eE)):
 step P (lone (b.atR a (.inRegion ops (i::rest)::k)) cs w)= .next (lone (b.atR (a.put o.dst v) (.inRegion ops rest::k)) eE w'):=by
 rw[←py ho]
 refine step_lone_go ?_
 rw[stepGR_op (rest:=rest) ho hw,ie]
 have J8:(b.atR a (.inRegion ops (i::rest)::k)).roundOf=none:=sM
 simp only[stepG.apply,Sem.runT_eq,if_true,hr,GStep.bare_after,J8,ht,GStep.bare_go]
theorem p6 {P:Program} (sM:b.roundOf=none) (ie:o.semAt b.roundOf a.eval=execOp a.eval o) (ho:ops[i]? =some o) (hw:Region.wanted o (yielded ops a.tmps)=true) {w':World} (hr:(execOp a.eval o).run P w= .ok .recover w')
 (ht:tryRecover (b.atR a (.inRegion ops (i::rest)::k)) cs=none):
 step P (lone (b.atR a (.inRegion ops (i::rest)::k)) cs w)= .next (lone (b.atR (a.put o.dst .nilIface) (.inRegion ops rest::k)) cs w'):=by
 rw[←py ho]
 refine step_lone_go ?_
 rw[stepGR_op (rest:=rest) ho hw,ie]
 have J8:(b.atR a (.inRegion ops (i::rest)::k)).roundOf=none:=sM
 simp only[stepG.apply,Sem.runT_eq,if_true,hr,GStep.bare_after,J8,ht,GStep.bare_go]
end
def Vs (P:Program) (m:Machine) (b:Frame) (ops:Array Oper) (rest:List Nat) (k:List Item) (cs:List Frame):Exit→Act→World→Prop
 | .normal,a,w=>Steps P m (lone (b.atR a (.inRegion ops rest::k)) cs w)
 | .panic chain,a,w=>∃todo,Steps P m (lone {b.atR a todo with mode:= .panicking chain} cs w)
 | _,_,_=>False
def GW (φ:Ph):Fn→Target→List Value→List Value→Prop
 | .fn f,t,vs,all=>∃cap:List Value,t= .fn (.func f) cap.toArray∧all=vs++cap
 | .tK l,t,vs,all=>∃ll,φ l=some ll∧t= .fn (.yield ll.cG) #[]∧all=vs
theorem GW.Vt {φ:Ph} {F:Fn} {t:Target} {vs all:List Value} (h:GW φ F t vs all):J5 φ F:=by
 cases F with
 | fn f=>trivial
 | tK l=>obtain ⟨ll,h,_⟩:=h;exact ⟨ll,h⟩
theorem vl {φ:Ph} (hg:GL E φ) {ts:List AV} {a:Act} (ht:LR φ ts a.tmps.toList) {c:Call} {f:Fn} {args:List AV} (h:callee E ts c=some (f,args)) (ty:TypeId):
 ∃(t:Target) (vs all:List Value),LR φ args all∧GW φ f t vs all∧∀w,(resolve a.eval c ty).run E.P w= .ok {target:=t,args:=vs.toArray} w:=by
 unfold callee at h
 split at h
 · rename_i x hcx
   split at h
   · rename_i g first captured as_ hx has
     simp at h;obtain ⟨rfl,rfl⟩:=h
     have h1:=jD hg ht hx
     have h2:=eP hg ht has
     generalize ij:a.eval x=cv at h1
     obtain ⟨OG,eE,rfl,hf,hc⟩:=h1.uX
     refine ⟨.fn (.func g) eE.toList.toArray,OG.toList++c.args.toList.map a.eval,_,?_,⟨eE.toList,rfl,rfl⟩,fun w=>?_⟩
     · rw[List.append_assoc]
       have:=(hf.append h2).append hc
       simpa [List.append_assoc] using this
     · simp [resolve,hcx,Deferred.ofValue,ij,map_toArray]
   · rename_i l as_ hx has
     simp at h;obtain ⟨rfl,rfl⟩:=h
     have h1:=jD hg ht hx
     have h2:=eP hg ht has
     generalize ij:a.eval x=cv at h1
     cases h1 with
     | yield hl=>
       refine ⟨_,c.args.toList.map a.eval,_,h2,⟨_,hl,rfl,rfl⟩,fun w=>?_⟩
       simp [resolve,hcx,Deferred.ofValue,ij,map_toArray]
   · simp at h
 · simp at h
theorem yu {φ:Ph} {w:World} {F:Fn} {t:Target} {vs all:List Value} (ht:GW φ F t vs all) {n:Next} {start:Frame} (hp:kq E φ w F all n start):(invoke t vs.toArray).run E.P w= .ok n w:=by
 cases hp with
 | fn f lq hr=>
   obtain ⟨cap,rfl,rfl⟩:=ht
   simpa [invoke] using hr
 | tK l ll hl lq f tmps assign body hr=>
   obtain ⟨ll',N7,rfl,rfl⟩:=ht
   rw[hl] at N7;simp at N7;subst N7
   simpa [invoke] using hr
theorem mO {φ:Ph} {b:Frame} {K:Bool→List Frame} {rc:RC} (dV:jF φ b K rc) {o:Oper} (h:rc.ko=false∨∀c,o.op≠ .defer c) (ρ:Operand→Value):o.semAt b.roundOf ρ=execOp ρ o:=by
 rcases h with h | h
 · rw[dV.plain h];rfl
 · exact Oper.semAt_eq _ _ _ h
end Go.Ab
end
section
namespace Go.Ab
variable {E:Env}
theorem vm {rc:RC} (h:∀l,rc= .B6 l→False):rc.ko=false:=by
 cases rc<;>first | rfl | exact (h _ rfl).elim
theorem OK.gl {φ:Ph} {h:ag} {w:World} (ok:OK E φ h w):GL E φ:=ok.nK
inductive oa (E:Env) (call:aB) (φ:Ph) (ts:List AV) (h:ag) (rc:RC) (o:Oper) (a:Act) (w:World):sD→Prop
 | val (v:AV) (h':ag) (φ':Ph) (w':World) (v':Value) (hv:VR φ' v v') (ok:OK E φ' h' w') (fr:Fr φ h w φ' h' w')
  (run:(execOp a.eval o).run E.P w= .ok (.value v') w'):oa E call φ ts h rc o a w (.val v h')
 | skip (h':ag) (φ':Ph) (w':World) (ok:OK E φ' h' w') (fr:Fr φ h w φ' h' w')
  (run:(execOp a.eval o).run E.P w= .ok .skip w'):oa E call φ ts h rc o a w (.val AV.undef h')
 | enter (v:AV) (h':ag) (F:Fn) (args:List AV) (all:List Value) (hr:Fm E F args h v h') (hf:J5 φ F) (hl:LR φ args all)
  (run:∀n start,kq E φ w F all n start→(execOp a.eval o).run E.P w= .ok n w):oa E call φ ts h rc o a w (.val v h')
 | OH (v:AV) (h':ag) (F:Fn) (args:List AV) (all:List Value) (hr:Fo E F args h v h') (hf:J5 φ F) (hl:LR φ args all)
  (run:∀n start,kq E φ w F all n start→(execOp a.eval o).run E.P w= .ok n w):oa E call φ ts h rc o a w (.panic v h')
 | defer (d:kb) (d':Deferred) (yh:rc.ko=false) (hd:DR φ d d') (run:(execOp a.eval o).run E.P w= .ok (.defer d') w):oa E call φ ts h rc o a w (.defer d)
 | panic (v:AV) (v':Value) (hv:VR φ v v') (run:(execOp a.eval o).run E.P w= .halt (.panic v') w):oa E call φ ts h rc o a w (.panic v h)
 | nz (v:AV) (dV:rc= .fH v) (run:(execOp a.eval o).run E.P w= .ok .recover w):oa E call φ ts h rc o a w (.nz v)
 | J9 (dV:∀v,rc≠ .fH v) (yh:rc.ko=false) (run:(execOp a.eval o).run E.P w= .ok .recover w):oa E call φ ts h rc o a w (.val .nilIface h)
 | fail (why:String) (q:Option Oper):oa E call φ ts h rc o a w (.fail why q)
theorem Cp {t:TypeId} {name:String} {f:FuncId} (h:rb E t name=some f) (v:Value) (w:World):(method (E.P.types.size+Made.depth) t v name).run E.P w= .ok (f,v) w:=by
 unfold rb at h
 split at h
 · rename_i i hi
   split at h
   · rename_i m hm
     split at h
     · rename_i hp
       split at h
       · simp at h
       · rename_i g d cH hf hu
         simp at h;subst h
         have Ie:m.path.toList=[]:=by simpa using hp
         have e:E.P.types.size+Made.depth=(E.P.types.size+99)+1:=rfl
         rw[e,method]
         have hti:(typeInfo t).run E.P w= .ok i w:=by simp [typeInfo,hi]
         simp only[Sem.run_bind,hti,Result.andThen_ok,hm,Ie,follow,Sem.run_pure,hf,receiverAt,run_underlying hu]
         cases d with
         | pointer x=>exact absurd rfl (cH x)
         | _=>simp [Place.get]
       · simp at h
     · simp at h
   · simp at h
 · simp at h
theorem oc {call:aB} {φ:Ph} {ts:List AV} {h:ag} {rc:RC} {o:Oper} {a:Act} {w:World} {s:Sem Value} {v:AV} {h':ag} (hd:E6 E φ h w (s.run E.P w) v h')
 (he:execOp a.eval o=(do pure (.value (←s)):Sem Next)):oa E call φ ts h rc o a w (.val v h'):=by
 obtain ⟨φ',w',v',hr,hv,ok,fr⟩:=hd
 exact .val v h' φ' w' v' hv ok fr (by rw[he];exact dc hr)
set_option maxHeartbeats 1000000 in
theorem qt (hE:hS E) {call:aB} (bS:eR E call) {φ:Ph} {ts:List AV} {h:ag} {rc:RC} {o:Oper} {a:Act} {w:World} (ht:LR φ ts a.tmps.toList) (ok:OK E φ h w):
 oa E call φ ts h rc o a w (bX E call ts h rc o):=by
 have ev:∀{x:Operand} {v:AV},cx E ts x=some v→VR φ v (a.eval x):=fun h=>jD ok.gl ht h
 obtain ⟨dst,op,ty,pos,after,guard⟩:=o
 unfold bX
 simp only
 split
 ·
  split
  · rename_i ha hx
    split
    · rename_i h' eZ
      obtain ⟨w',hr,iV,jW⟩:=E7 ok (ev ha) (ev hx) eZ
      exact .skip h' φ w' iV jW (by simp [execOp,hr])
    · exact .fail _ _
  · exact .fail _ _
 ·
  split
  · rename_i hm hk hx
    split
    · rename_i h' eZ
      obtain ⟨w',hr,iV,jW⟩:=n9 ok (ev hm) (ev hk) (ev hx) eZ
      exact .skip h' φ w' iV jW (by simp [execOp,hr])
    · exact .fail _ _
  · exact .fail _ _
 ·
  split
  · rename_i hm hk hx
    split
    · rename_i h' eZ
      obtain ⟨w',hr,iV,jW⟩:=n9 ok (ev hm) (ev hk) (ev hx) eZ
      exact .skip h' φ w' iV jW (by simp [execOp,hr])
    · exact .fail _ _
  · exact .fail _ _
 ·
  split
  · rename_i hm hk
    split
    · rename_i v h' hc
      exact oc (yr ok (ev hm) (ev hk) hc) rfl
    · exact .fail _ _
  · exact .fail _ _
 ·
  rename_i tt mm bb xx
  split
  · rename_i hm hk hx
    split
    · rename_i h' eZ
      obtain ⟨w',hr,iV,jW⟩:=uA (t:=tt) ok (ev hm) (ev hk) (ev hx) eZ
      exact .skip h' φ w' iV jW (by simp [execOp,hr])
    · exact .fail _ _
  · exact .fail _ _
 ·
  rename_i src dst x
  split
  · rename_i v h' hc
    cases hx:cx E ts x with
    | none=>rw[hx] at hc;simp [ra] at hc
    | some xv=>
      rw[hx] at hc
      exact oc (Ij ok hc (ev hx)) rfl
  · exact .fail _ _
 ·
  split
  · rename_i hi
    split
    · rename_i hn
      exact oc (Im ok hn (ev hi) ty) rfl
    · exact .fail _ _
  · exact .fail _ _
 ·
  split
  · rename_i hx
    have h1:=ev hx
    generalize ij:a.eval _=cv at h1
    cases h1 with
    | iface t1 v1 v' hv=>
    exact .panic _ _ (.iface _ _ v' hv) (by simp [execOp,ij,Instr.panic])
  · exact .fail _ _
 ·
  split
  · exact .fail _ _
  · rename_i f args yh hc
    obtain ⟨t,vs,all,hl,⟨cap,rfl,rfl⟩,hr⟩:=vl ok.gl ht hc ty
    exact .defer _ {target:= .fn (.func f) cap.toArray,args:=vs.toArray} (vm yh) ⟨cap.toArray,rfl,by simpa using hl⟩ (by simp [execOp,hr])
  · exact .fail _ _
 ·
  rename_i c
  split
  ·
   rename_i yv
   split
   · rename_i s x has
     have hl:=eP ok.gl ht has
     obtain ⟨s',r1,Vu,hs,Zm⟩:=hl.bQ
     obtain ⟨x',r2,Zo,hx,JB⟩:=Zm.bQ
     have h0:c.args.map a.eval= #[s',x']:=by rw[map_toArray,Vu,Zo,JB.dG]
     split
     · rename_i Zp
       exact oc (Cj ok Zp hs hx ty) (by simp [execOp,resolve,yv,invoke,builtin,h0])
     · exact .fail _ _
   · exact .fail _ _
  ·
   rename_i yv
   split
   · rename_i s x has
     have hl:=eP ok.gl ht has
     obtain ⟨s',r1,Vu,hs,Zm⟩:=hl.bQ
     obtain ⟨x',r2,Zo,hx,JB⟩:=Zm.bQ
     have h0:c.args.map a.eval= #[s',x']:=by rw[map_toArray,Vu,Zo,JB.dG]
     split
     · rename_i Zp
       exact oc (Ii ok Zp hs hx ty) (by simp [execOp,resolve,yv,invoke,builtin,h0])
     · exact .fail _ _
   · exact .fail _ _
  ·
   rename_i yv
   have dZ:(execOp a.eval ⟨dst,.call c,ty,pos,after,guard⟩).run E.P w= .ok .recover w:=by simp [execOp,resolve,yv,invoke,builtin]
   split
   · exact .nz _ rfl dZ
   · exact .fail _ _
   · rename_i cH yh
     exact .J9 (fun v e=>cH v e) (vm yh) dZ
  ·
   rename_i fo yv
   split
   · rename_i F args hc
     obtain ⟨t,vs,all,hl,Zq,hr⟩:=vl ok.gl ht hc ty
     have dZ:∀n start,kq E φ w F all n start→(execOp a.eval ⟨dst,.call c,ty,pos,after,guard⟩).run E.P w= .ok n w:=fun n start hp=>by
      have:=yu Zq hp
      simp [execOp,hr,this]
     split
     · rename_i g hg
       split
       · rename_i v h' hgv
         cases F with
         | fn f=>exact .enter v h' (.fn f) args all (hE.ff f g hg args h v h' hgv).any trivial hl dZ
         | tK l=>simp [gI] at hg
       · exact .fail _ _
     · split
       · rename_i v h' ij
         exact .enter v h' F args all (bS.ret F args h v h' ij) Zq.Vt hl dZ
       · rename_i v h' ij
         exact .OH v h' F args all (bS.panic F args h v h' ij) Zq.Vt hl dZ
       · exact .fail _ _
   · exact .fail _ _
  ·
   rename_i r name yv
   split
   · rename_i t x args hx has
     split
     · rename_i f hm
       have h1:=ev hx
       generalize ij:a.eval r=cv at h1
       cases h1 with
       | iface t1 v1 v' hv=>
       have hl:LR φ (x::args) (v'::c.args.toList.map a.eval):= .cons hv (eP ok.gl ht has)
       have dZ:∀n start,kq E φ w (.fn f) (v'::c.args.toList.map a.eval) n start→(execOp a.eval ⟨dst,.call c,ty,pos,after,guard⟩).run E.P w= .ok n w:=fun n start hp=>by
        cases hp with
        | fn f lq hr=>
        have e1:(#[v']++(c.args.map a.eval))=(v'::c.args.toList.map a.eval).toArray:=by rw[map_toArray];simp
        have e2:(#[Value.iface t v']++c.args.map a.eval).extract 1 (#[Value.iface t v']++c.args.map a.eval).size=c.args.map a.eval:=by
         apply Array.ext';simp
         exact List.take_of_length_le (by simp)
        have e3:(#[Value.iface t v']++c.args.map a.eval)[0]? =some (Value.iface t v'):=by rw[Array.getElem?_append];rfl
        simp only[execOp,resolve,yv,ij,Sem.run_bind,Sem.run_pure,Result.andThen_ok,invoke,e3,e2,callMethod,run_program,Cp hm,e1,hr]
       split
       · rename_i v h' Sx
         exact .enter v h' (.fn f) _ _ (bS.ret (.fn f) _ h v h' Sx) trivial hl dZ
       · rename_i v h' Sx
         exact .OH v h' (.fn f) _ _ (bS.panic (.fn f) _ h v h' Sx) trivial hl dZ
       · exact .fail _ _
     · exact .fail _ _
   · exact .fail _ _
  · exact .fail _ _
 · exact .fail _ _
structure Vv (E:Env) (φ:Ph) (h:ag) (w:World) (b:Frame) (K:Bool→List Frame) (ops:Array Oper) (rest:List Nat) (k:List Item) (m:Machine) (e:gR) (s':St):Prop where
 is:∃φ' w' a' e',Sw φ' e e'∧SR φ' s'.ts s'.ds a'∧OK E φ' s'.h w'∧Fr φ h w φ' s'.h w'∧jF φ' b K s'.rc∧Vs E.P m b ops rest k (cur K s'.rc) e' a' w'
set_option maxHeartbeats 1000000 in
theorem y7 (hE:hS E) {call:aB} (bS:eR E call) {ops:Array Oper} {i:Nat} {rest:List Nat} {o:Oper} (ho:ops[i]? =some o) {s s':St} {e:gR} (l9:z_ E call s o= .ok e s')
 {φ:Ph} {a:Act} {w:World} {b:Frame} {k:List Item} {K:Bool→List Frame} (hs:SR φ s.ts s.ds a) (ok:OK E φ s.h w) (dV:jF φ b K s.rc) (hw:Region.wanted o (yielded ops a.tmps)=true):
 Vv E φ s.h w b K ops rest k (lone (b.atR a (.inRegion ops (i::rest)::k)) (cur K s.rc) w) e s':=by
 have ie:(s.rc.ko=false∨∀c,o.op≠ .defer c)→o.semAt b.roundOf a.eval=execOp a.eval o:=fun h=>mO dV h _
 unfold z_ at l9
 split at l9
 · rename_i v hp
   have lr:s.rc.ko=false∨∀c,o.op≠ .defer c:= .inr (fun c e=>by rw[e] at hp;simp [aG] at hp)
   simp at l9;obtain ⟨rfl,rfl⟩:=l9
   obtain ⟨v',hv,hr⟩:=tO hE.ext ok.gl hs.ts hp
   exact ⟨φ,w,_,_,.normal,hs.put o.dst hv,ok,Fr.refl _ _ _,dV,.one (jm (ie lr) ho hw (hr w))⟩
 · split at l9
   · rename_i v hp
     have lr:s.rc.ko=false∨∀c,o.op≠ .defer c:= .inr (fun c e=>by rw[e] at hp;simp [cB] at hp)
     simp at l9;obtain ⟨rfl,rfl⟩:=l9
     obtain ⟨v',hv,hr⟩:=tS ok.gl ok hs.ts hp
     exact ⟨φ,w,_,_,.normal,hs.put o.dst hv,ok,Fr.refl _ _ _,dV,.one (jm (ie lr) ho hw (hr w rfl))⟩
   · split at l9
     · rename_i obj mk hp
       have lr:s.rc.ko=false∨∀c,o.op≠ .defer c:= .inr (fun c e=>by rw[e] at hp;simp [cq] at hp)
       split at l9
       · rename_i h' hn
         simp at l9;obtain ⟨rfl,rfl⟩:=l9
         obtain ⟨O,mk',Cq,hr⟩:=rk ok.gl hs.ts hp
         obtain ⟨iV,jW,hle⟩:=ok.fresh (w':=w.alloc O) hn ⟨w.heap.size,0,0⟩ (by
          have:=Cq.obj (φ.add s.h.nx ⟨w.heap.size,0,0⟩) w.heap.size (fun i m hm=>by
           unfold Ph.add;split
           · rename_i e;subst e;exact absurd (ok.sE _ _ hm) (Nat.lt_irrefl _)
           · exact hm)
          rw[show (w.alloc O).heap=w.heap.push O from rfl]
          simpa using this)
          (fun c cH hc=>by rw[show (w.alloc O).heap=w.heap.push O from rfl,Array.getElem?_push,if_neg (by simpa using cH)]) (by simp) (Nat.le_refl _) rfl rfl rfl
         have hv:=Cq.val (φ.add s.h.nx ⟨w.heap.size,0,0⟩) s.h.nx w.heap.size hle (by simp [Ph.add])
         exact ⟨_,_,_,_,.normal,(hs.mono hle).put o.dst hv,iV,jW,dV.mono hle,.one (jm (ie lr) ho hw (hr w))⟩
       · simp at l9
     · have od:=qt hE bS (rc:=s.rc) (o:=o) hs.ts ok
       have lr:(∃d,bX E call s.ts s.h s.rc o= .defer d)∨(∃why q,bX E call s.ts s.h s.rc o= .fail why q)∨(s.rc.ko=false∨∀c,o.op≠ .defer c):=by
        by_cases hd:∃c,o.op= .defer c
        · obtain ⟨c,hd⟩:=hd
          unfold bX
          simp only[hd]
          split
          · exact .inr (.inl ⟨_,_,rfl⟩)
          · exact .inl ⟨_,rfl⟩
          · exact .inr (.inl ⟨_,_,rfl⟩)
        · exact .inr (.inr (.inr (fun c e=>hd ⟨c,e⟩)))
       generalize bX E call s.ts s.h s.rc o=eo at l9 od lr
       cases od with
       | val v h' φ' w' v' hv nC fr run=>
         have lr:=(lr.resolve_left (by simp)).resolve_left (by simp)
         simp at l9;obtain ⟨rfl,rfl⟩:=l9
         exact ⟨φ',w',_,_,.normal,(hs.mono fr.ext).put o.dst hv,nC,fr,dV.mono fr.ext,.one (jm (ie lr) ho hw run)⟩
       | skip h' φ' w' nC fr run=>
         have lr:=(lr.resolve_left (by simp)).resolve_left (by simp)
         simp at l9;obtain ⟨rfl,rfl⟩:=l9
         exact ⟨φ',w',_,_,.normal,(hs.mono fr.ext).put o.dst (VR.undef φ'),nC,fr,dV.mono fr.ext,.one (Co (ie lr) ho hw run)⟩
       | enter v h' F args all hr hf hl run=>
         have lr:=(lr.resolve_left (by simp)).resolve_left (by simp)
         simp at l9;obtain ⟨rfl,rfl⟩:=l9
         obtain ⟨n,start,hp,eZ⟩:=hr φ w all ok hf hl
         obtain ⟨φ',w',v',hv,nC,fr,fS⟩:=eZ (b.atR a (.inRegion ops (i::rest)::k)) (cur K s.rc)
         rw[py ho] at fS
         exact ⟨φ',w',_,_,.normal,(hs.mono fr.ext).put o.dst hv,nC,fr,dV.mono fr.ext,.head (go_enter (ie lr) ho hw hp (run n start hp)) fS⟩
       | OH v h' F args all hr hf hl run=>
         have lr:=(lr.resolve_left (by simp)).resolve_left (by simp)
         simp at l9;obtain ⟨rfl,rfl⟩:=l9
         obtain ⟨n,start,hp,eZ⟩:=hr φ w all ok hf hl
         obtain ⟨φ',w',v',hv,nC,fr,fS⟩:=eZ (b.atR a (.inRegion ops (i::rest)::k)) (cur K s.rc)
         rw[Frame.raise_atR] at fS
         exact ⟨φ',w',a,_,.panic v v' hv,hs.mono fr.ext,nC,fr,dV.mono fr.ext,.inRegion ops (i::rest)::k,.head (go_enter (ie lr) ho hw hp (run n start hp)) fS⟩
       | defer d d' yh hd run=>
         simp at l9;obtain ⟨rfl,rfl⟩:=l9
         have h1:SR φ s.ts (d::s.ds) {a with defers:=d'::a.defers}:=⟨hs.ts,hd,hs.ds⟩
         exact ⟨φ,w,_,_,.normal,h1.put o.dst (VR.undef φ),ok,Fr.refl _ _ _,dV,.one (Io (mO dV (.inl yh) _) ho hw run)⟩
       | panic v v' hv run=>
         have lr:=(lr.resolve_left (by simp)).resolve_left (by simp)
         simp at l9;obtain ⟨rfl,rfl⟩:=l9
         exact ⟨φ,w,a,_,.panic v v' hv,hs,ok,Fr.refl _ _ _,dV,_,.one (J7 (ie lr) ho hw run)⟩
       | nz v Zr run=>
         simp at l9;obtain ⟨rfl,rfl⟩:=l9
         rw[Zr] at dV ⊢
         have J_:=dV.plain rfl
         have Vw:=mO dV (o:=o) (.inl rfl) a.eval
         obtain ⟨_,⟨v',hv,htr⟩,Vx⟩:=dV
         exact ⟨φ,w,_,_,.normal,hs.put o.dst hv,ok,Fr.refl _ _ _,⟨J_,Vx⟩,.one (Fq J_ Vw ho hw run (htr _ rfl))⟩
       | J9 cH yh run=>
         simp at l9;obtain ⟨rfl,rfl⟩:=l9
         have Ad:∀fr:Frame,fr.kind=b.kind→tryRecover fr (cur K s.rc)=none:=by
          cases Av:s.rc with
          | no=>rw[Av] at dV;exact dV.2
          | fH v=>exact absurd Av (cH v)
          | done=>rw[Av] at dV;exact dV.2
          | B6 l=>rw[Av] at yh;simp [RC.ko] at yh
         exact ⟨φ,w,_,_,.normal,hs.put o.dst .nilIface,ok,Fr.refl _ _ _,dV,.one (p6 (dV.plain yh) (mO dV (.inl yh) _) ho hw run (Ad _ rfl))⟩
       | fail why q=>simp at l9
end Go.Ab
end
