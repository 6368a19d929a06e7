import Derived.Laws.BitsLemmas
import Derived.Laws.RangeString
import Derived.Defers
import Derived.AtR
import Derived.RangeFuncNested
import Derived.Test.YtogcojohajankaaGreatA1
set_option linter.unusedVariables false
set_option linter.unusedSimpArgs false
section
namespace Go.Ab
variable {E:Env}
def Tn (E:Env) (φ:Ph) (h:aw) (w:World) (r:Result Value) (v:AV) (h':aw):Prop:=
 ∃φ' w' v',r= .ok v' w'∧VR φ' v v'∧OK E φ' h' w'∧Fr φ h w φ' h' w'
theorem EJ {φ:Ph} {vs:List AV} {s9:List Value} (h:LR φ vs s9) (hs:vs.all AV.scalar=true):∀v∈s9,v.oneCell'=true:=by
 intro v hv
 obtain ⟨i,hi⟩:=List.getElem?_of_mem hv
 have hil:i<vs.length:=by rw[h.1];exact (List.getElem?_eq_some_iff.1 hi).1
 have:=h.2 i vs[i] v (by simp [hil]) hi
 exact this.scalar (List.all_eq_true.1 hs _ (List.getElem_mem hil))
theorem BN {φ:Ph} {h:aw} {w:World} (ok:OK E φ h w) {i:Nat} {cs:List AV} {e:TypeId} (hg:h.get i=some (.cells cs e false)) {l:Loc} (hφ:φ i=some l)
 {vs:List AV} {s9:List Value} (hl:LR φ vs s9) (o:Nat) (hle:o+vs.length≤cs.length) (CT:vs.all AV.scalar=true):
 ∃w',(storeCells ⟨l.iw,l.off+o,none⟩ s9).run E.P w= .ok () w'∧OK E φ (h.put i (some (.cells (setFrom cs o vs) e false))) w'∧
  Fr φ h w φ (h.put i (some (.cells (setFrom cs o vs) e false))) w':=by
 obtain ⟨C,e',lo,hi,hb,hc⟩:=ok.cells hg hφ
 have Mc:=hc.size
 have hlen:=hl.1
 have jf:=xO (P:=E.P) hb (l.off+o) s9 (by omega) (fun k h1 h2=>hc.free rfl k (by omega) (by omega)) (EJ hl CT)
 refine ⟨_,jf,?_⟩
 obtain ⟨h1,h2,h3⟩:=vm s9 w l.iw (l.off+o)
 refine ok.change hg rfl hφ ?_ (fun c fH=>lQ s9 (Ne.symm fH) _) (rj _ _ _ _) h1 h2 h3
 refine ⟨lP C (l.off+o) s9,e',lo,hi,ri s9 hb _,?_,fun k x hk=>?_,fun _ k a b=>hc.free rfl k a (by rw[pR] at b;exact b),fun h=>by cases h⟩
 · rw[pR,vl];exact Mc
 · rw[jK] at hk
   rw[yw]
   split at hk
   · rename_i Hy
     rw[if_pos (by omega)]
     obtain ⟨y,hy,hr⟩:=hl.get hk
     exact ⟨y,by rw[show l.off+k -(l.off+o)=k - o by omega];exact hy,hr⟩
   · rename_i Hy
     have hkl:k<cs.length:=(List.getElem?_eq_some_iff.1 hk).1
     rw[if_neg (by omega)]
     exact hc.val k x hk
theorem Pg {φ:Ph} {h h':aw} {w:World} (ok:OK E φ h w) {t:TypeId} {av xv:AV} {a' x':Value} (ha:VR φ av a') (hx:VR φ xv x') (e:dW E h t av xv=some h'):
 ∃w',(Instr.storeAt t a' x').run E.P w= .ok () w'∧OK E φ h' w'∧Fr φ h w φ h' w':=by
 unfold dW at e
 split at e
 · rename_i i o
   cases ha with
   | @ptr _ l _ hφ=>
   split at e
   · rename_i cs el n hg hn
     split at e
     · rename_i hc
       simp at e;subst e
       obtain ⟨w',jf,rl,uS⟩:=BN ok hg hφ hx.cells o (by omega) hc.2.2
       refine ⟨w',?_,rl,uS⟩
       have hs:x'.cells.size=n:=by have:=hx.cells.1;simp at this;omega
       simp only[Instr.storeAt,Instr.sureAddr,Sem.run_bind,Sem.run_pure,Result.andThen_ok,storeVar,fv hn,hs,ne_eq,not_true_eq_false,if_false,jf]
     · simp at e
   · simp at e
 · simp at e
theorem EK {φ:Ph} {h:aw} {w:World} (ok:OK E φ h w) {size n:Nat} {x:AV} {x':Value} (hx:VR φ x x') {new:List AV} (e:fF h size n x=some new) (hn:qF x=some n∨True):
 ∃uT:List Value,LR φ new uT∧∀w',w'.heap=w.heap→(Builtin.firstCells size n x').run E.P w'= .ok uT.toArray w':=by
 unfold fF at e
 split at e
 · split at e
   · rename_i h0
     simp at e;subst e
     cases hx
     exact ⟨[],LR.nil φ,fun w' _=>by simp [Builtin.firstCells]⟩
   · simp at e
 · split at e
   · rename_i h0
     simp at e;subst e
     cases hx
     exact ⟨[],LR.nil φ,fun w' _=>by subst h0;simp only[Builtin.firstCells,Nat.zero_mul];rfl⟩
   · simp at e
 · rename_i i o len _ _
   split at e
   · split at e
     · rename_i h0
       simp at e;subst e
       cases hx
       exact ⟨[],LR.nil φ,fun w' _=>by subst h0;simp only[Builtin.firstCells,Nat.zero_mul];rfl⟩
     · split at e
       · rename_i cs el ro hg
         split at e
         · rename_i hle
           simp at e;subst e
           cases hx with
           | @slice _ l _ _ _ _ hφ=>
           obtain ⟨C,e',lo,hi,hb,hc⟩:=ok.cells hg hφ
           obtain ⟨vs,hvl,OU,CM⟩:=hc.range o (n*size) hle
           refine ⟨vs,CM,fun w' hw=>?_⟩
           rw[←hw] at hb
           have EF:=pz (P:=E.P) hb (l.off+o) vs OU
           rw[hvl] at EF
           simp only[Builtin.firstCells,EF]
         · simp at e
       · simp at e
   · simp at e
 · rename_i s
   split at e
   · rename_i vb
     simp at e;subst e
     generalize Pc:AV.str s=s0 at hx
     cases hx<;>cases Pc
     rename_i s'
     refine ⟨(s'.data.toList.take n).map (fun b=>Value.int .u8 b.toNat),⟨by simp,fun i p q hp hq=>?_⟩,fun w' _=>?_⟩
     · rw[←List.map_take,List.getElem?_map] at hp
       rw[List.getElem?_map] at hq
       cases hb:(s'.data.toList.take n)[i]? with
       | none=>rw[hb] at hp;simp at hp
       | some b=>
         rw[hb] at hp hq
         simp at hp hq
         subst hp;subst hq
         exact .int _ _
     · simp only[Builtin.firstCells,Sem.run_pure]
       congr 1
       apply Array.ext'
       simp
   · simp at e
 · simp at e
end Go.Ab
namespace Go.Ab
variable {E:Env}
theorem OK.reuse {φ:Ph} {h h':aw} {w w':World} (ok:OK E φ h w) {i:Nat} {o o':aH} {l l':Loc} (hg:h.get i=some o) (L5:o.rw=true) (hl:φ i=some l) (hb:l'.iw=l.iw)
 (hn:(h.put i none).new o'=some h') (ho:OR E (φ.add h.nx l') o' l' w'.heap[l.iw]?) (vn:∀c,c≠l.iw→w'.heap[c]? =w.heap[c]?) (g6:w'.heap.size=w.heap.size)
 (hos:w'.os=w.os) (Md:w'.tape=w.tape) (rN:w'.output=w.output):
 OK E (φ.add h.nx l') h' w'∧Fr φ h w (φ.add h.nx l') h' w':=by
 obtain ⟨nN,hnx,Ez,hold⟩:=aw.mT hn
 have hpn:(h.put i none).nx=h.nx:=rfl
 rw[hpn] at hnx Ez hold
 have Ho:φ h.nx=none:=by
  cases e:φ h.nx with
  | none=>rfl
  | some m=>exact absurd (ok.Dz _ _ e) (Nat.lt_irrefl _)
 have hle:φ.le (φ.add h.nx l'):=fun j m hm=>by
  unfold Ph.add;split
  · rename_i e;subst e;rw[Ho] at hm;simp at hm
  · exact hm
 have ie:∀j p,h'.get j=some p→(j=h.nx∧p=o')∨(j≠h.nx∧j≠i∧h.get j=some p):=fun j p hj=>by
  by_cases e:j=h.nx
  · subst e;rw[Ez] at hj;simp at hj;exact .inl ⟨rfl,hj.symm⟩
  · rw[hold j e] at hj
    by_cases e':i=j
    · subst e';rw[aw.dG] at hj;simp at hj
    · rw[aw.cj e'] at hj;exact .inr ⟨e,Ne.symm e',hj⟩
 have lR:∀j,j≠h.nx→(φ.add h.nx l') j=φ j:=fun j hj=>by simp [Ph.add,hj]
 have iP:(φ.add h.nx l') h.nx=some l':=by simp [Ph.add]
 refine ⟨⟨fun j m hm=>?_,?_,fun g hg=>hle _ _ (ok.yu g hg),fun j p m hj hm=>?_,fun j k p q m n hj hk hm uR hw hbb=>?_⟩,
  ⟨hle,fun j hj=>lR j (by omega),by omega,hos,Md,rN,Nat.le_of_eq g6.symm,fun b _ hn'=>vn b (fun e=>hn' i o l hg L5 hl e.symm),fun j p m hj hr hm=>?_⟩⟩
 · rw[hnx]
   by_cases e:j=h.nx
   · omega
   · rw[lR j e] at hm;have:=ok.Dz j m hm;omega
 · have:=ok.nx;omega
 · rcases ie j p hj with ⟨rfl,rfl⟩ | ⟨fH,JM,rO⟩
   · rw[iP] at hm;simp at hm;subst hm;exact hb▸ho
   · rw[lR j fH] at hm
     rw[vn _ (fun e=>JM (ok.inj j i p o m l rO hg hm hl (.inr L5) e))]
     exact (ok.live j p m rO hm).mono hle
 · rcases ie j p hj with ⟨rfl,rfl⟩ | ⟨fH,hni,rO⟩<;>rcases ie k q hk with ⟨rfl,rfl⟩ | ⟨JM,ajF,Ht⟩
   · rfl
   · rw[iP] at hm;simp at hm;subst hm
     rw[lR k JM] at uR
     exact absurd (ok.inj k i q o n l Ht hg uR hl (.inr L5) (hbb.symm.trans hb)) ajF
   · rw[iP] at uR;simp at uR;subst uR
     rw[lR j fH] at hm
     exact absurd (ok.inj j i p o m l rO hg hm hl (.inr L5) (hbb.trans hb)) hni
   · rw[lR j fH] at hm;rw[lR k JM] at uR;exact ok.inj _ _ _ _ _ _ rO Ht hm uR hw hbb
 · rcases ie j p hj with ⟨rfl,rfl⟩ | ⟨fH,hni,rO⟩
   · rw[iP] at hm;simp at hm;subst hm;exact .inr ⟨i,o,l,hg,L5,hl,hb.symm⟩
   · rw[lR j fH] at hm;exact .inr ⟨j,p,m,rO,hr,hm,rfl⟩
theorem Iz:∀(rounds c Pj:Nat),c<Pj→Builtin.growBy Pj rounds c≤2*Pj+1000
 | 0,c,n,h=>by simp [Builtin.growBy];omega
 | r+1,c,n,h=>by
   simp only[Builtin.growBy]
   split
   · omega
   · by_cases hc:c+(c+768) /4<n
     · exact Iz r _ n hc
     · cases r with
       | zero=>simp only[Builtin.growBy];omega
       | succ r=>simp only[Builtin.growBy];rw[if_pos (by omega)];omega
theorem nextslicecap_le {n c:Nat} (h:c<n):Builtin.nextslicecap n c≤4*n+4096:=by
 unfold Builtin.nextslicecap
 split
 · omega
 · split
   · omega
   · have:=Iz 4 c n h;omega
theorem pU (z:Array Value) (n:Nat):(Builtin.zeroCells z n).size=n*z.size:=by simp [Builtin.zeroCells]
theorem ux {P:Program} {w:World} {sT xT ty elem:TypeId} {xd:TypeDesc} (hs:P.underlying sT=some (.slice elem)) (hx:P.underlying xT=some xd) (hxd:∀k,xd≠ .int k)
 {size bytes n:Nat} (g6:(P.info? elem).map (·.size)=some size) (mU:(P.info? elem).map (·.bytes)=some bytes) {z:Value} (hz:∀w,(zeroValue elem).run P w= .ok z w) (hzs:z.cells.size=size)
 {base:Option Addr} {len cap:Nat} {x':Value} (hn:∀w,(Builtin.lenOf x').run P w= .ok n w) {old new:List Value} (hold:∀w',w'.heap=w.heap→(Builtin.firstCells size len (.slice base len cap)).run P w'= .ok old.toArray w')
 (Ez:∀w',w'.heap=w.heap→(Builtin.firstCells size n x').run P w'= .ok new.toArray w') (nN:cap<len+n) (hsm:(4*(len+n)+4096)*(bytes+1)≤1099511627776) (ZR:old.length=len*size) (VB:new.length=n*size):
 ∃nc:Nat,∃C:Array Value,len+n≤nc∧(∃rest,C.toList=old++new++rest)∧C.size=nc*size∧
  (Builtin.append_ #[sT,xT] ty #[.slice base len cap,x']).run P w= .ok (.slice (some ⟨w.heap.size,0,none⟩) (len+n) nc) (w.drew.alloc (.cells C elem)):=by
 let nc:=(Question.appendCap (len+n) cap elem).cut (w.tape w.drawn (.appendCap (len+n) cap elem))
 have VC:len+n≤nc:=by show len+n≤len+n+_;omega
 let C:Array Value:=old.toArray++new.toArray++Builtin.zeroCells z.cells (nc -(len+n))
 refine ⟨nc,C,VC,⟨(Builtin.zeroCells z.cells (nc -(len+n))).toList,by simp [C]⟩,?_,?_⟩
 · simp only[C,Array.size_append,pU,hzs,List.size_toArray,ZR,VB]
   rw[←Nat.add_mul,←Nat.add_mul];congr 1;omega
 · obtain ⟨inf,Mi,hb⟩:=rP mU w
   obtain ⟨ajG,VD,hb'⟩:=rP mU w.drew
   have hxm:(match xd with | .int _=>true | _=>false)=false:=by cases xd<;>first | rfl | exact absurd rfl (hxd _)
   have adX:¬len+n≤cap:=by omega
   have adY:=nextslicecap_le nN
   have hmul:(4*(len+n)+4096)*(bytes+1)=(4*(len+n)+4096)*bytes+(4*(len+n)+4096):=by rw[Nat.mul_add,Nat.mul_one]
   have Pl:¬Builtin.nextslicecap (len+n) cap*bytes>2^48:=by
    have:Builtin.nextslicecap (len+n) cap*bytes≤(4*(len+n)+4096)*bytes:=Nat.mul_le_mul_right _ adY
    omega
   have adZ:IntKind.i64.max=9223372036854775807:=by decide
   have JT:¬(((len+n:Nat):Int) >IntKind.i64.max):=by rw[adZ];omega
   have o1:=hold w.drew rfl
   have n1:=Ez w.drew rfl
   have z1:=hz w.drew
   have hf:((!false)=true)=True:=by simp
   simp only[Builtin.append_,List.getElem?_toArray,List.getElem?_cons_zero,List.getElem?_cons_succ,Sem.run_bind,Sem.run_pure,Result.andThen_ok,run_underlying hs,run_underlying hx,fv g6,Bool.false_eq_true,if_false,hn,adX,Mi]
   rw[if_neg (fun h=>JT h.1)]
   simp only[Sem.run_bind,Mi,hb,Result.andThen_ok]
   rw[if_neg Pl]
   simp only[Sem.run_bind,run_choose,Question.forced,Bool.false_eq_true,if_false,World.drew_eq,Result.andThen_ok,VD,run_askRoom,o1,hf,if_true,n1,z1,newRow,run_newObj,World.alloc_eq,Sem.run_pure]
   rfl
theorem rU {P:Program} {w w':World} {sT xT ty elem:TypeId} {xd:TypeDesc} (hs:P.underlying sT=some (.slice elem)) (hx:P.underlying xT=some xd) (hxd:∀k,xd≠ .int k)
 {size n:Nat} (g6:(P.info? elem).map (·.size)=some size) {b O len cap:Nat} {x':Value} (hn:∀w,(Builtin.lenOf x').run P w= .ok n w) {new:List Value}
 (Ez:(Builtin.firstCells size n x').run P w= .ok new.toArray w) (hle:len+n≤cap) (kB:(storeCells ⟨b,O+len*size,none⟩ new).run P w= .ok () w'):
 (Builtin.append_ #[sT,xT] ty #[.slice (some ⟨b,O,none⟩) len cap,x']).run P w= .ok (.slice (some ⟨b,O,none⟩) (len+n) cap) w':=by
 have hxm:(match xd with | .int _=>true | _=>false)=false:=by cases xd<;>first | rfl | exact absurd rfl (hxd _)
 have hf:((!false)=true)=True:=by simp
 simp only[Builtin.append_,List.getElem?_toArray,List.getElem?_cons_zero,List.getElem?_cons_succ,Sem.run_bind,Sem.run_pure,Result.andThen_ok,run_underlying hs,run_underlying hx,fv g6,hf,Bool.false_eq_true,if_false,if_true,hn,hle,Ez,wK,kB]
theorem zR {φ:Ph} {h h':aw} {w:World} (ok:OK E φ h w) {new:List AV} {elem:TypeId} (hn:h.new (.cells new elem false)=some h') {l:List Value} (hl:LR φ new l)
 {size nc n:Nat} (g6:b7 E elem=some size) {C:Array Value} {rest:List Value} (hC:C.toList=l++rest) (U2:C.size=nc*size) (VC:n≤nc) (hll:l.length=n*size):
 Tn E φ h w (.ok (.slice (some ⟨w.heap.size,0,none⟩) n nc) (w.drew.alloc (.cells C elem))) (.slice h.nx 0 n n true) h':=by
 have VB:new.length=n*size:=by rw[hl.1,hll]
 obtain ⟨rl,uS,hle⟩:=ok.fresh (w':=w.drew.alloc (.cells C elem)) hn ⟨w.heap.size,0,nc - n⟩ (by
  refine ⟨C,elem,0,0,by rw[show (w.drew.alloc (.cells C elem)).heap=w.heap.push (.cells C elem) from rfl];simp,?_,fun k x hk=>?_,fun _ k _ _=>by omega,fun _ _ _=>rfl⟩
  · simp only[gT,g6,Option.getD_some,VB,U2,Nat.zero_add]
    rw[←Nat.add_mul];exact Nat.mul_le_mul_right _ (by omega)
  · obtain ⟨y,hy,hr⟩:=hl.get hk
    have hkl:k<l.length:=(List.getElem?_eq_some_iff.1 hy).1
    refine ⟨y,?_,hr.mono (fun i m hm=>?_)⟩
    · have:C.toList[k]? =some y:=by rw[hC,List.getElem?_append_left hkl];exact hy
      simpa using this
    · unfold Ph.add
      split
      · rename_i e;subst e;exact absurd (ok.Dz _ _ hm) (Nat.lt_irrefl _)
      · exact hm)
  (fun c fH hc=>by
   have:(w.drew.alloc (.cells C elem)).heap[c]? =w.heap[c]? :=by
    rw[show (w.drew.alloc (.cells C elem)).heap=w.heap.push (.cells C elem) from rfl,Array.getElem?_push,if_neg (by simpa using fH)]
   exact this) (by simp) (Nat.le_refl _) rfl rfl rfl
 refine ⟨_,_,_,rfl,?_,rl,uS⟩
 have:=VR.slice (φ:=φ.add h.nx ⟨w.heap.size,0,nc - n⟩) (i:=h.nx) (l:=⟨w.heap.size,0,nc - n⟩) 0 n n true (by simp [Ph.add])
 simp only[iO,if_true] at this
 rw[show n+(nc - n)=nc by omega] at this
 exact this
theorem Fr.aae {φ φ':Ph} {h h':aw} {w w':World} {i:Nat} (f:Fr φ (h.put i none) w φ' h' w'):Fr φ h w φ' h' w':=by
 have ie:∀j p,(h.put i none).get j=some p→h.get j=some p:=fun j p hj=>by
  by_cases e:i=j
  · subst e;rw[aw.dG] at hj;simp at hj
  · rw[aw.cj e] at hj;exact hj
 exact ⟨f.ext,f.old,f.nx,f.os,f.tape,f.output,f.size,fun b hb hn=>f.Hs b hb (fun j p m hj=>hn j p m (ie j p hj)),
  fun j p m hj hr hm=>(f.own j p m hj hr hm).imp id (fun ⟨k,q,n,a,b⟩=>⟨k,q,n,ie k q a,b⟩)⟩
theorem pV {φ:Ph} {x:AV} {n:Nat} (h:qF x=some n) {x':Value} (hx:VR φ x x') (P:Program) (w:World):(Builtin.lenOf x').run P w= .ok n w:=by
 cases x<;>simp [qF] at h
 · subst h
   generalize Pc:AV.str _=s0 at hx
   cases hx<;>cases Pc
   rfl
 · cases hx;subst h;rfl
 · cases hx;subst h;rfl
 · cases hx;subst h;rfl
theorem DC {P:Program} {w:World} {sT xT ty elem:TypeId} {kx:IntKind} (hs:P.underlying sT=some (.slice elem)) (hx:P.underlying xT=some (.int kx))
 {size bytes:Nat} (g6:(P.info? elem).map (·.size)=some size) (mU:(P.info? elem).map (·.bytes)=some bytes) {z:Value} (hz:∀w,(zeroValue elem).run P w= .ok z w) (hzs:z.cells.size=size)
 {k:IntKind} {n:Int} (hn:0<n) (Pm:0<size) (hsm:(4*n.toNat+4096)*(bytes+1)≤1099511627776):
 ∃nc:Nat,∃C:Array Value,n.toNat≤nc∧(∃rest,C.toList=(Builtin.zeroCells z.cells n.toNat).toList++rest)∧C.size=nc*size∧
  (Builtin.append_ #[sT,xT] ty #[.slice none 0 0,.int k n]).run P w= .ok (.slice (some ⟨w.heap.size,0,none⟩) n.toNat nc) (w.drew.alloc (.cells C elem)):=by
 let nc:=(Question.appendCap (0+n.toNat) 0 elem).cut (w.tape w.drawn (.appendCap (0+n.toNat) 0 elem))
 have VC:n.toNat≤nc:=by show n.toNat≤0+n.toNat+_;omega
 let C:Array Value:= #[]++Builtin.zeroCells z.cells n.toNat++Builtin.zeroCells z.cells (nc -(0+n.toNat))
 refine ⟨nc,C,VC,⟨(Builtin.zeroCells z.cells (nc -(0+n.toNat))).toList,by simp [C]⟩,?_,?_⟩
 · simp only[C,Array.size_append,pU,hzs,Array.size_empty,Nat.zero_add]
   rw[←Nat.add_mul];congr 1;omega
 · obtain ⟨inf,Mi,hb⟩:=rP mU w
   obtain ⟨ajG,VD,hb'⟩:=rP mU w.drew
   have hmul:(4*n.toNat+4096)*(bytes+1)=(4*n.toNat+4096)*bytes+(4*n.toNat+4096):=by rw[Nat.mul_add,Nat.mul_one]
   have VB:n.toNat≤1099511627776:=by omega
   have agR:IntKind.i64.wrap n=n:=by
    rw[IntKind.wrap_i64];omega
   have ajH:¬n<0:=by omega
   have Hq:n*(bytes:Int)=((n.toNat*bytes:Nat):Int):=by rw[Int.natCast_mul,Int.toNat_of_nonneg (by omega)]
   have hle:n.toNat*bytes≤(4*n.toNat+4096)*bytes:=Nat.mul_le_mul_right _ (by omega)
   have agS:¬n*(bytes:Int) >2^48:=by rw[Hq];omega
   have adX:¬0+n.toNat≤0:=by omega
   have adY:=nextslicecap_le (show 0<0+n.toNat by omega)
   have Pl:¬Builtin.nextslicecap (0+n.toNat) 0*bytes>2^48:=by
    have:Builtin.nextslicecap (0+n.toNat) 0*bytes≤(4*(0+n.toNat)+4096)*bytes:=Nat.mul_le_mul_right _ adY
    rw[Nat.zero_add] at this
    rw[Nat.zero_add]
    omega
   have adZ:IntKind.i64.max=9223372036854775807:=by decide
   have JT:¬(((0+n.toNat:Nat):Int) >IntKind.i64.max):=by rw[adZ];omega
   have hns:¬n.toNat*size=0:=by
    have h1:0<n.toNat:=by omega
    have:=Nat.mul_pos h1 Pm;omega
   have z1:=hz w.drew
   have hf:((!true)=true)=False:=by simp
   have hai:∀w,(asInt (.int k n)).run P w= .ok n w:=fun _=>rfl
   simp only[Builtin.append_,List.getElem?_toArray,List.getElem?_cons_zero,List.getElem?_cons_succ,Sem.run_bind,Sem.run_pure,Result.andThen_ok,run_underlying hs,run_underlying hx,fv g6,if_true,hai,agR]
   rw[if_neg ajH]
   simp only[Sem.run_bind,Mi,hb,Result.andThen_ok]
   rw[if_neg agS]
   simp only[Sem.run_bind,Sem.run_pure,Result.andThen_ok]
   rw[if_neg adX]
   simp only[Sem.run_bind,Result.andThen_ok,Mi,hb]
   rw[if_neg (fun h=>JT h.1)]
   simp only[Sem.run_bind,Mi,hb,Result.andThen_ok]
   rw[if_neg Pl]
   simp only[Sem.run_bind,run_choose,Question.forced,Bool.false_eq_true,if_false,World.drew_eq,Result.andThen_ok,VD,run_askRoom,Builtin.firstCells,hf,if_neg hns,z1,newRow,run_newObj,World.alloc_eq,Sem.run_pure]
   simp only[nc,C,Nat.zero_add]
   rfl
theorem Mj {φ:Ph} {h h':aw} {w:World} (ok:OK E φ h w) {argTypes:Array TypeId} {s x v:AV} (e:di E h argTypes s x=some (v,h')) {s' x':Value} (hs:VR φ s s') (hx:VR φ x x') (ty:TypeId):
 Tn E φ h w ((Builtin.append_ argTypes ty #[s',x']).run E.P w) v h':=by
 unfold di at e
 split at e
 · rename_i sT xT hsT hxT
   split at e
   · rename_i elem xd hus hux
     split at e
     · rename_i hint
       cases xd<;>simp [oZ] at hint
       have key:(Builtin.append_ argTypes ty #[s',x']).run E.P w=(Builtin.append_ #[sT,xT] ty #[s',x']).run E.P w:=by
        unfold Builtin.append_;simp only[hsT,hxT];rfl
       rw[key]
       unfold vg at e
       split at e
       · rename_i k0 k size bytes z g6 mU hzero
         split at e
         · rename_i hc
           obtain ⟨hk,Pm,hsm,hzl⟩:=hc
           split at e
           · rename_i h1 CU
             simp at e;obtain ⟨rfl,rfl⟩:=e
             cases hs;cases hx
             obtain ⟨z',DA,l5⟩:=kf hzero
             have hzs:z'.cells.size=size:=by have:=(DA φ).cells.1;simp at this;omega
             obtain ⟨nc,C,VC,⟨rest,hC⟩,U2,jf⟩:=DC (P:=E.P) (w:=w) (ty:=ty) (k:=k0) hus hux g6 mU l5 hzs hk Pm hsm
             rw[jf]
             exact zR (n:=k.toNat) ok CU (l:=(Builtin.zeroCells z'.cells k.toNat).toList) (Pf (DA φ).cells k.toNat) g6 hC U2 VC (by rw[Array.length_toList,pU,hzs])
           · simp at e
         · simp at e
       · simp at e
     rename_i agT
     have hxd:∀k,xd≠ .int k:=fun k he=>by subst he;simp [oZ] at agT
     split at e
     · rename_i size bytes n g6 mU hlen
       split at e
       · rename_i new z EL hzero
         split at e
         · rename_i hc
           obtain ⟨hzl,CT,acW⟩:=hc
           obtain ⟨z',DA,l5⟩:=kf hzero
           have hzs:z'.cells.size=size:=by have:=(DA φ).cells.1;simp at this;omega
           obtain ⟨uT,Hz,zS⟩:=EK ok hx EL (.inr trivial)
           have VB:uT.length=n*size:=by rw[←Hz.1];exact acW
           have key:(Builtin.append_ argTypes ty #[s',x']).run E.P w=(Builtin.append_ #[sT,xT] ty #[s',x']).run E.P w:=by
            unfold Builtin.append_;simp only[hsT,hxT];rfl
           rw[key]
           split at e
           ·
            cases hs
            split at e
            · rename_i ZQ
              simp at e;obtain ⟨rfl,rfl⟩:=e
              subst ZQ
              refine ⟨φ,w,_,?_,.aD,ok,Fr.refl φ h w⟩
              have hxm:(match xd with | .int _=>true | _=>false)=false:=by cases xd<;>first | rfl | exact absurd rfl (hxd _)
              have hf:((!false)=true)=True:=by simp
              have hn1:=zS w rfl
              simp only[Builtin.append_,List.getElem?_toArray,List.getElem?_cons_zero,List.getElem?_cons_succ,Sem.run_bind,Sem.run_pure,Result.andThen_ok,run_underlying hus,run_underlying hux,fv g6,hf,Bool.false_eq_true,if_false,if_true,pV hlen hx,hn1,Nat.le_refl,Nat.add_zero]
            · rename_i ZQ
              split at e
              · rename_i hsm
                split at e
                · rename_i h1 CU
                  simp at e;obtain ⟨rfl,rfl⟩:=e
                  obtain ⟨nc,C,VC,⟨rest,hC⟩,U2,jf⟩:=ux (P:=E.P) (w:=w) (ty:=ty) hus hux hxd g6 mU l5 hzs (base:=none) (len:=0) (cap:=0) (fun w=>pV hlen hx E.P w) (old:=[]) (fun w' _=>by simp [Builtin.firstCells]) (fun w' hw=>zS w' hw) (by omega) (by simpa using hsm) (by simp) VB
                  have:=zR (n:=n) ok CU (l:=[]++uT) (by simpa using Hz) (by simpa using g6) (by simpa using hC) U2 (by omega) (by simp [VB])
                  rw[jf]
                  simp only[Nat.zero_add] at this ⊢
                  exact this
                · simp at e
              · simp at e
           · rename_i i o len cap op
             cases hs with
             | @slice _ l _ _ _ _ hφ=>
             split at e
             · rename_i cs el hg
               split at e
               ·
                rename_i agU
                split at e
                · rename_i hle
                  simp at e;obtain ⟨rfl,rfl⟩:=e
                  have hcc:cap≤iO op cap l.j6:=by unfold iO;split<;>omega
                  obtain ⟨w',kB,rl,uS⟩:=BN ok hg hφ Hz (o+len*size) (by rw[acW,Nat.add_assoc,←Nat.add_mul];exact hle) CT
                  refine ⟨φ,w',_,rU (P:=E.P) hus hux hxd g6 (fun w=>pV hlen hx E.P w) (zS w rfl) (by omega) (by rw[Nat.add_assoc];exact kB),?_,rl,uS⟩
                  have:=VR.slice (φ:=φ) o (len+n) cap op hφ
                  exact this
                · simp at e
               · rename_i agU
                 split at e
                 · rename_i Vw
                   obtain ⟨hsm,ZR,rM⟩:=Vw
                   split at e
                   · rename_i h1 CU
                     simp at e;obtain ⟨rfl,rfl⟩:=e
                     obtain ⟨C0,e0,lo,hi,hb0,hc0⟩:=ok.cells hg hφ
                     obtain ⟨aaf,Mk,agV,Pn⟩:=hc0.range o (len*size) ZR
                     have aag:∀cp w',w'.heap=w.heap→(Builtin.firstCells size len (.slice (some ⟨l.iw,l.off+o,none⟩) len cp)).run E.P w'= .ok aaf.toArray w':=fun cp w' hw=>by
                      rw[←hw] at hb0
                      have EF:=pz (P:=E.P) hb0 (l.off+o) aaf agV
                      rw[Mk] at EF
                      simp only[Builtin.firstCells,EF]
                     by_cases Hy:len+n≤iO op cap l.j6
                     ·
                      have ajI:op=true:=by
                       cases op with
                       | true=>rfl
                       | false=>simp [iO] at Hy;omega
                      subst ajI
                      obtain ⟨rfl,agP⟩:=rM rfl
                      simp only[iO,if_true] at Hy ⊢
                      simp only[if_true] at CU
                      have Mc:=hc0.size
                      simp only[gT,g6,Option.getD_some] at Mc
                      have hmul:(len+n)*size≤(cap+l.j6)*size:=Nat.mul_le_mul_right _ Hy
                      have e1:(len+n)*size=len*size+n*size:=Nat.add_mul _ _ _
                      have e2:(cap+l.j6)*size=cap*size+l.j6*size:=Nat.add_mul _ _ _
                      have kB:=xO (P:=E.P) hb0 (l.off+o+len*size) uT (by omega) (fun k k1 k2=>hc0.free rfl k (by omega) (by simp only[gT,g6,Option.getD_some];omega)) (EJ Hz CT)
                      obtain ⟨p1,p2,p3⟩:=vm uT w l.iw (l.off+o+len*size)
                      obtain ⟨rl,uS⟩:=ok.reuse (w':=w.setCells l.iw (l.off+o+len*size) uT) (l':=⟨l.iw,l.off+o,cap+l.j6 -(len+n)⟩) hg rfl hφ rfl CU (by
                       refine ⟨lP C0 (l.off+o+len*size) uT,e0,lo,hi,ri uT hb0 _,?_,fun k x hk=>?_,fun _ k a b=>hc0.free rfl k (by simp at a;omega) ?_,fun h=>by cases h⟩
                       · simp only[gT,g6,Option.getD_some,vl,List.length_append,Pn.1,Mk,Hz.1,VB]
                         rw[Nat.sub_mul];omega
                       · show ∃y,(lP C0 (l.off+o+len*size) uT)[l.off+o+k]? =some y∧_
                         rw[yw]
                         by_cases hk1:k<len*size
                         · rw[List.getElem?_append_left (by rw[Pn.1,Mk];exact hk1)] at hk
                           obtain ⟨y,hy,hr⟩:=Pn.get hk
                           rw[if_neg (by omega)]
                           exact ⟨y,agV k y hy,hr.mono (fun j m hm=>by
                            unfold Ph.add
                            split
                            · rename_i ej;subst ej;exact absurd (ok.Dz _ _ hm) (Nat.lt_irrefl _)
                            · exact hm)⟩
                         · rw[List.getElem?_append_right (by rw[Pn.1,Mk];omega)] at hk
                           obtain ⟨y,hy,hr⟩:=Hz.get hk
                           have hyl:k -((List.take (len*size) (List.drop o cs)).length)<uT.length:=(List.getElem?_eq_some_iff.1 hy).1
                           rw[Pn.1,Mk] at hyl hy
                           rw[if_pos (by omega)]
                           exact ⟨y,by rw[show l.off+o+k -(l.off+o+len*size)=k - len*size by omega];exact hy,hr.mono (fun j m hm=>by
                            unfold Ph.add
                            split
                            · rename_i ej;subst ej;exact absurd (ok.Dz _ _ hm) (Nat.lt_irrefl _)
                            · exact hm)⟩
                       · simp only[gT,g6,Option.getD_some,List.length_append,Pn.1,Mk,Hz.1,VB] at b ⊢
                         rw[Nat.sub_mul] at b;omega)
                       (fun c fH=>lQ uT (Ne.symm fH) _) (rj _ _ _ _) p1 p2 p3
                      refine ⟨_,_,_,rU (P:=E.P) hus hux hxd g6 (fun w=>pV hlen hx E.P w) (zS w rfl) Hy kB,?_,rl,uS⟩
                      have:=VR.slice (φ:=φ.add h.nx ⟨l.iw,l.off+o,cap+l.j6 -(len+n)⟩) (i:=h.nx) (l:=⟨l.iw,l.off+o,cap+l.j6 -(len+n)⟩) 0 (len+n) (len+n) true (by simp [Ph.add])
                      simp only[iO,if_true] at this
                      rw[show len+n+(cap+l.j6 -(len+n))=cap+l.j6 by omega] at this
                      exact this
                     ·
                      obtain ⟨nc,C,VC,⟨rest,hC⟩,U2,jf⟩:=ux (P:=E.P) (w:=w) (ty:=ty) hus hux hxd g6 mU l5 hzs (base:=some ⟨l.iw,l.off+o,none⟩) (len:=len) (cap:=iO op cap l.j6) (fun w=>pV hlen hx E.P w) (old:=aaf) (fun w' hw=>aag _ w' hw) (fun w' hw=>zS w' hw) (by omega) hsm Mk VB
                      rw[jf]
                      have CM:=Pn.append Hz
                      have hll:(aaf++uT).length=(len+n)*size:=by rw[List.length_append,Mk,VB,Nat.add_mul]
                      cases op with
                      | false=>exact zR ok CU CM g6 hC U2 VC hll
                      | true=>
                        obtain ⟨φ',w',v',a1,a2,a3,a4⟩:=zR ok.kill CU CM g6 hC U2 VC hll
                        exact ⟨φ',w',v',a1,a2,a3,a4.aae⟩
                   · simp at e
                 · simp at e
             · simp at e
           · simp at e
         · simp at e
       · simp at e
     · simp at e
   · simp at e
 · simp at e
end Go.Ab
end
section
namespace Go.Ab
variable {E:Env}
theorem To {φ:Ph} {h h':aw} {w:World} (ok:OK E φ h w) {argTypes:Array TypeId} {s d v:AV} (e:uv E h argTypes d s=some (v,h')) {s' d':Value} (hd:VR φ d d') (hs:VR φ s s') (ty:TypeId):
 Tn E φ h w ((Builtin.copy_ argTypes ty #[d',s']).run E.P w) v h':=by
 unfold uv at e
 split at e
 · rename_i dT hdT
   split at e
   · rename_i elem m hu hm
     split at e
     · rename_i size g6
       simp at e;obtain ⟨rfl,rfl⟩:=e
       cases hd
       refine ⟨φ,w,_,?_,.int .i64 0,ok,Fr.refl φ h w⟩
       have h0:Nat.min m 0=0:=Nat.min_eq_right (Nat.zero_le _)
       obtain ⟨uT,_,zS⟩:∃uT:List Value,True∧(Builtin.firstCells size 0 s').run E.P w= .ok uT.toArray w:=by
        cases s<;>simp [qF] at hm
        · generalize Pc:AV.str _=s0 at hs
          cases hs<;>cases Pc
          refine ⟨[],trivial,?_⟩
          simp [Builtin.firstCells]
        · cases hs;exact ⟨[],trivial,by simp [Builtin.firstCells]⟩
        · cases hs;exact ⟨[],trivial,by simp [Builtin.firstCells,loadCells,loadCellsFrom]⟩
        · cases hs;exact ⟨[],trivial,by simp [Builtin.firstCells,loadCells,loadCellsFrom]⟩
       simp only[Builtin.copy_,hdT,List.getElem?_toArray,List.getElem?_cons_zero,List.getElem?_cons_succ,Sem.run_bind,Result.andThen_ok,run_underlying hu,pV hm hs,h0,fv g6,zS,Sem.run_pure]
       rfl
     · rename_i size i o len _ _ g6
       split at e
       · rename_i new cs el EL hg
         split at e
         · rename_i hc
           simp at e;obtain ⟨rfl,rfl⟩:=e
           cases hd with
           | @slice _ l _ _ _ _ hφ=>
           obtain ⟨uT,Hz,zS⟩:=EK ok hs EL (.inr trivial)
           obtain ⟨w',kB,rl,uS⟩:=BN ok hg hφ Hz o hc.1 hc.2
           refine ⟨φ,w',_,?_,.int .i64 _,rl,uS⟩
           have h0:Nat.min m len=min m len:=rfl
           simp only[Builtin.copy_,hdT,List.getElem?_toArray,List.getElem?_cons_zero,List.getElem?_cons_succ,Sem.run_bind,Result.andThen_ok,run_underlying hu,pV hm hs,h0,fv g6,zS w rfl,kB,Sem.run_pure]
           rfl
         · simp at e
       · simp at e
     · simp at e
   · simp at e
 · simp at e
theorem Ml {w:World} {b n:Nat} {C:Array Value} {e:TypeId} (h:w.heap[b]? =some (.cells C e)):(w.freeze ⟨b,n,none⟩ 1).heap[b]? =some (.cells C e (n,n+1)):=by
 simp [World.freeze,Array.getElem?_modify,h]
theorem JU {w:World} {b c n:Nat} (h:b≠c):(w.freeze ⟨b,n,none⟩ 1).heap[c]? =w.heap[c]? :=by
 simp [World.freeze,Array.getElem?_modify,h]
theorem Mm (w:World) (b n:Nat):(w.freeze ⟨b,n,none⟩ 1).heap.size=w.heap.size:=by simp [World.freeze]
theorem Tp {φ:Ph} {h h':aw} {w:World} (ok:OK E φ h w) {src dst:TypeId} {x:AV} {v:AV} (e:Ir E h src dst (some x)=some (v,h')) {x':Value} (hx:VR φ x x'):
 Tn E φ h w ((convert src dst x').run E.P w) v h':=by
 unfold Ir at e
 split at e
 · rename_i el s hs hd Hv
   simp at Hv;subst Hv
   generalize Pc:AV.str s=s0 at hx
   cases hx<;>cases Pc
   rename_i s'
   split at e
   · rename_i h1 he hn
     split at e
     · rename_i Mc
       simp at e;obtain ⟨rfl,rfl⟩:=e
       have e1:s'.size=s'.data.toList.length:=by cases s';rfl
       let nc:=(Question.appendCap s'.size 0 el).cut (w.tape w.drawn (.appendCap s'.size 0 el))
       have VC:s'.size≤nc:=by show s'.size≤s'.size+_;omega
       let C:Array Value:=(s'.data.map fun b=>Value.int .u8 b.toNat)++Array.replicate (nc - s'.size) (.int .u8 0)
       have U2:C.size=nc:=by
        have e0:s'.size=s'.data.size:=rfl
        have:C.size=s'.data.size+(nc - s'.size):=by simp only[C,Array.size_append,Array.size_map,Array.size_replicate]
        omega
       have DD:(w.drew.alloc (.cells C el)).heap=w.heap.push (.cells C el):=rfl
       have agW:(w.drew.alloc (.cells C el)).heap[w.heap.size]? =some (.cells C el):=by rw[DD];simp
       obtain ⟨rl,uS,hle⟩:=ok.fresh (w':=(w.drew.alloc (.cells C el)).freeze ⟨w.heap.size,nc,none⟩ 1) hn ⟨w.heap.size,0,nc - s'.size⟩ (by
        refine ⟨C,el,nc,nc+1,Ml agW,?_,fun k x hk=>?_,fun _ k _ b=>?_,fun _ _ _=>rfl⟩
        · simp only[gT,Mc,Option.getD_some,U2,List.length_map];rw[←e1];omega
        · rw[List.getElem?_map] at hk
          cases hb:s'.data.toList[k]? with
          | none=>rw[hb] at hk;simp at hk
          | some b=>
            rw[hb] at hk;simp at hk;subst hk
            have hkl:k<s'.data.toList.length:=(List.getElem?_eq_some_iff.1 hb).1
            refine ⟨.int .u8 b.toNat,?_,.int _ _⟩
            have:C[0+k]? =(s'.data.map fun b=>Value.int .u8 b.toNat)[k]? :=by
             simp only[C,Nat.zero_add];rw[Array.getElem?_append_left (by simpa using hkl)]
            show C[0+k]? =_
            rw[this]
            rw[Array.getElem?_map]
            have hb':s'.data[k]? =some b:=by simpa using hb
            rw[hb'];rfl
        · simp only[gT,Mc,Option.getD_some,List.length_map] at b;rw[←e1] at b;omega)
        (fun c fH hc=>by
         rw[JU (Ne.symm fH),DD,Array.getElem?_push,if_neg (by omega)]) (by rw[Mm,DD];simp) (Nat.le_refl _) rfl rfl rfl
       refine ⟨_,_,.slice (some ⟨w.heap.size,0,none⟩) s'.size nc,?_,?_,rl,uS⟩
       · have hsh:(w.drew.alloc (.cells C el)).shape? w.heap.size=some (el,nc):=by
          simp only[World.shape?,agW,U2]
         simp only[convert,Sem.run_bind,run_underlying hs,run_underlying hd,Result.andThen_ok,run_underlying he,Conv.stringToBytes,run_choose,Question.forced,Bool.false_eq_true,if_false,World.drew_eq,newRow,run_newObj,World.alloc_eq,Sem.run_pure,markStringish]
         rw[show (Question.appendCap s'.size 0 el).cut (w.tape w.drawn (Question.appendCap s'.size 0 el))=nc from rfl,show (Array.map (fun b=>Value.int .u8 b.toNat) s'.data++Array.replicate (nc - s'.size) (Value.int .u8 0))=C from rfl]
         simp only[World.size_drew,run_shape,hsh,Result.andThen_ok,run_freeze]
       · have:=VR.slice (φ:=φ.add h.nx ⟨w.heap.size,0,nc - s'.size⟩) (i:=h.nx) (l:=⟨w.heap.size,0,nc - s'.size⟩) 0 s'.size s'.size true (by simp [Ph.add])
         simp only[iO,if_true] at this
         rw[show s'.size+(nc - s'.size)=nc by omega] at this
         exact this
     · simp at e
   · simp at e
 · simp at e
theorem ta {φ:Ph} {v:AV} {v':Value} (hv:VR φ v v') {k':Value}:∀{es:List mn} {mj:List MapEntry} (_:Vl φ es mj) (i:Nat) (_:∀e,es[i]? =some e→VR φ e.key k'),
 Vl φ (mS es i v) (mj.modify i fun e=>{e with key:=k',val:=v'})
 | [],mj,h,i,_=>by
   cases mj with
   | nil=>simpa [mS] using h
   | cons _ _=>simp [Vl] at h
 | e::es,mj,h,i,hk=>by
   obtain ⟨hl,OU⟩:=h
   cases mj with
   | nil=>simp at hl
   | cons y ys=>
     have h0:=OU 0 e y (by simp) (by simp)
     have pT:Vl φ es ys:=⟨by simpa using hl,fun i a b p q=>OU (i+1) a b (by simpa using p) (by simpa using q)⟩
     cases i with
     | zero=>
       simp only[mS,List.modify_zero_cons]
       refine ⟨by simpa using hl,fun j a b p q=>?_⟩
       cases j with
       | zero=>simp at p q;subst p;subst q;exact ⟨hk e (by simp),hv,h0.born⟩
       | succ j=>simp at p q;exact pT.2 j a b p q
     | succ i=>
       simp only[mS,List.modify_succ_cons]
       obtain ⟨g1,g2⟩:=ta hv pT i (fun e he=>hk e (by simpa using he))
       refine ⟨by simp [g1],fun j a b p q=>?_⟩
       cases j with
       | zero=>simp at p q;subst p;subst q;exact h0
       | succ j=>simp at p;exact g2 j a b p (by simpa using q)
theorem aah (s:ByteArray):(s==s)=true:=by cases s;rename_i d;show (d==d)=true;simp
theorem JV {φ:Ph} {k j:AV} (e:Ip k j=some true) {k' j':Value} (h:VR φ k k') (h':VR φ j j'):Instr.sameBits 10000 j' k'=true∧j'=k':=by
 unfold Ip at e
 split at e
 · generalize hs:AV.str _=s at h
   generalize s7:AV.str _=s' at h'
   cases h<;>cases hs
   cases h'<;>cases s7
   rename_i s s'
   simp at e
   have:s'=s:=by cases s;cases s';simp_all
   subst this
   exact ⟨by simp only[Instr.sameBits];exact aah _,rfl⟩
 · cases h;cases h'
   split at e
   · rename_i EG
     simp at e;subst e;subst EG
     exact ⟨by simp [Instr.sameBits],rfl⟩
   · simp at e
 · cases h;cases h'
   simp at e;subst e
   exact ⟨by simp [Instr.sameBits],rfl⟩
 · simp at e
theorem vq {φ:Ph} {h h':aw} {w:World} (ok:OK E φ h w) {t:TypeId} {m k v:AV} {m' k' v':Value} (hm:VR φ m m') (hk:VR φ k k') (hv:VR φ v v') (e:fM E h t m k v=some h'):
 ∃w',(Instr.mapUpdate t m' k' v').run E.P w= .ok () w'∧OK E φ h' w'∧Fr φ h w φ h' w':=by
 unfold fM at e
 split at e
 · rename_i key elem i hu
   cases hm with
   | @map _ l hφ=>
   split at e
   · rename_i es clock hg
     split at e
     · rename_i EG
       have Pe:∃d,E.P.underlying key=some d∧jU (some d) k=true:=by
        cases hd:E.P.underlying key with
        | none=>rw[hd] at EG;simp [jU] at EG
        | some d=>rw[hd] at EG;exact ⟨d,rfl,EG⟩
       obtain ⟨d,hd,EI⟩:=Pe
       have Hp:=ok.live i _ l hg hφ
       obtain ⟨Vz,mj,hb,mq⟩:=Hp
       have Hx:(getObj l.iw).run E.P w= .ok (.map mj clock) w:=by simp [getObj,Sem.run,hb]
       have OV:=s_ (P:=E.P) hd EI hk false 9999 w
       have BP:∀o':Obj,(setObj l.iw o').run E.P w= .ok () {w with heap:=w.heap.setIfInBounds l.iw o'}:=fun o'=>by simp [setObj,Sem.run,hb]
       have hch:∀(o:aH) (o':Obj),OR E φ o l (some o')→o.rw=true→OK E φ (h.put i (some o)) {w with heap:=w.heap.setIfInBounds l.iw o'}∧Fr φ h w φ (h.put i (some o)) {w with heap:=w.heap.setIfInBounds l.iw o'}:=fun o o' ho L5=>by
        have nN:l.iw<w.heap.size:=by
         rcases Nat.lt_or_ge l.iw w.heap.size with a | a
         · exact a
         · rw[Array.getElem?_eq_none a] at hb;simp at hb
        exact ok.change hg rfl hφ (by simp [nN];exact ho) (fun c fH=>by simp [Ne.symm fH]) (by simp) rfl rfl rfl
       split at e
       · rename_i j v0 hf
         obtain ⟨r',h1,h2⟩:=rT EI hk mq hf
         cases r' with
         | none=>exact h2.elim
         | some q=>
         obtain ⟨j',v1⟩:=q
         obtain ⟨rfl,OU,_,ent,BL,VE⟩:=h2
         simp at e;subst e
         obtain ⟨y,hy⟩:∃y,mj.toList[j]? =some y:=by
          have nN:j<es.length:=by simpa using (List.getElem?_eq_some_iff.1 BL).1
          exact ⟨mj.toList[j]'(by rw[←mq.1];exact nN),by simp⟩
         have hey:=mq.2 j ent y (by simpa using BL) hy
         obtain ⟨hsb,ad0⟩:=JV VE hk hey.key
         have hy':mj[j]? =some y:=by simpa using hy
         obtain ⟨rl,uS⟩:=hch (.map (mS es j v) clock) (.map (mj.modify j fun e=>{e with key:=k',val:=v'}) clock) ⟨Vz,_,rfl,by
          have:=ta hv mq j (k':=k') (fun e he=>by
           have:e=ent:=by
            have h3:es[j]? =some ent:=by simpa using BL
            rw[h3] at he;simp at he;exact he.symm
           subst this;rw[←ad0];exact hey.key)
          simpa using this⟩ rfl
         refine ⟨_,?_,rl,uS⟩
         simp only[Instr.mapUpdate,Sem.run_bind,run_underlying hu,Result.andThen_ok,Hx,OV,Instr.findKey,run_underlying hd,h1,Sem.run_pure,hy',Option.map_some,Option.getD_some,Instr.keyThatStays,hsb,if_true,BP _]
       · rename_i hf
         obtain ⟨r',h1,h2⟩:=rT EI hk mq hf
         cases r' with
         | some q=>exact h2.elim
         | none=>
         simp at e;subst e
         obtain ⟨rl,uS⟩:=hch (.map (es++[{key:=k,val:=v,born:=clock}]) (clock+1)) (.map (mj.push {key:=k',val:=v',born:=clock}) (clock+1)) ⟨Vz,_,rfl,by
          refine ⟨by simp [mq.1],fun j a b p q=>?_⟩
          rw[Array.toList_push] at q
          by_cases hj:j<es.length
          · rw[List.getElem?_append_left hj] at p
            rw[List.getElem?_append_left (by rw[←mq.1];exact hj)] at q
            exact mq.2 j a b p q
          · rw[List.getElem?_append_right (by omega)] at p
            rw[List.getElem?_append_right (by rw[←mq.1];omega),←mq.1] at q
            cases hjj:j - es.length with
            | zero=>rw[hjj] at p q;simp at p q;subst p;subst q;exact ⟨hk,hv,rfl⟩
            | succ n=>rw[hjj] at p;simp at p⟩ rfl
         refine ⟨_,?_,rl,uS⟩
         simp only[Instr.mapUpdate,Sem.run_bind,run_underlying hu,Result.andThen_ok,Hx,OV,Instr.findKey,run_underlying hd,h1,Sem.run_pure,BP _]
       · simp at e
     · split at e
       · rename_i EG
         have Pe:∃d,E.P.underlying key=some d∧oa E (some d) k=true:=by
          cases hd:E.P.underlying key with
          | none=>rw[hd] at EG;simp [oa] at EG
          | some d=>rw[hd] at EG;exact ⟨d,rfl,EG⟩
         obtain ⟨d,hd,EI⟩:=Pe
         have Hp:=ok.live i _ l hg hφ
         obtain ⟨Vz,mj,hb,mq⟩:=Hp
         have Hx:(getObj l.iw).run E.P w= .ok (.map mj clock) w:=by simp [getObj,Sem.run,hb]
         have OV:=vp hd EI hk false 9998 w
         have BP:∀o':Obj,(setObj l.iw o').run E.P w= .ok () {w with heap:=w.heap.setIfInBounds l.iw o'}:=fun o'=>by simp [setObj,Sem.run,hb]
         have hch:∀(o:aH) (o':Obj),OR E φ o l (some o')→o.rw=true→OK E φ (h.put i (some o)) {w with heap:=w.heap.setIfInBounds l.iw o'}∧Fr φ h w φ (h.put i (some o)) {w with heap:=w.heap.setIfInBounds l.iw o'}:=fun o o' ho L5=>by
          have nN:l.iw<w.heap.size:=by
           rcases Nat.lt_or_ge l.iw w.heap.size with a | a
           · exact a
           · rw[Array.getElem?_eq_none a] at hb;simp at hb
          exact ok.change hg rfl hφ (by simp [nN];exact ho) (fun c fH=>by simp [Ne.symm fH]) (by simp) rfl rfl rfl
         split at e
         · rename_i j v0 hf
           obtain ⟨r',h1,h2⟩:=rS hk mq hf
           cases r' with
           | none=>exact h2.elim
           | some q=>
           obtain ⟨j',v1⟩:=q
           obtain ⟨rfl,OU,_,ent,BL,VE⟩:=h2
           simp at e;subst e
           obtain ⟨y,hy⟩:∃y,mj.toList[j]? =some y:=by
            have nN:j<es.length:=by simpa using (List.getElem?_eq_some_iff.1 BL).1
            exact ⟨mj.toList[j]'(by rw[←mq.1];exact nN),by simp⟩
           have hey:=mq.2 j ent y (by simpa using BL) hy
           obtain ⟨hsb,ad0⟩:=VE hk hey.key
           have hy':mj[j]? =some y:=by simpa using hy
           obtain ⟨rl,uS⟩:=hch (.map (mS es j v) clock) (.map (mj.modify j fun e=>{e with key:=k',val:=v'}) clock) ⟨Vz,_,rfl,by
            have:=ta hv mq j (k':=k') (fun e he=>by
             have:e=ent:=by
              have h3:es[j]? =some ent:=by simpa using BL
              rw[h3] at he;simp at he;exact he.symm
             subst this;rw[←ad0];exact hey.key)
            simpa using this⟩ rfl
           refine ⟨_,?_,rl,uS⟩
           simp only[Instr.mapUpdate,Sem.run_bind,run_underlying hu,Result.andThen_ok,Hx,OV,pA hd EI hk (h1 w),Sem.run_pure,hy',Option.map_some,Option.getD_some,Instr.keyThatStays,hsb,if_true,BP _]
         · rename_i hf
           obtain ⟨r',h1,h2⟩:=rS hk mq hf
           cases r' with
           | some q=>exact h2.elim
           | none=>
           simp at e;subst e
           obtain ⟨rl,uS⟩:=hch (.map (es++[{key:=k,val:=v,born:=clock}]) (clock+1)) (.map (mj.push {key:=k',val:=v',born:=clock}) (clock+1)) ⟨Vz,_,rfl,by
            refine ⟨by simp [mq.1],fun j a b p q=>?_⟩
            rw[Array.toList_push] at q
            by_cases hj:j<es.length
            · rw[List.getElem?_append_left hj] at p
              rw[List.getElem?_append_left (by rw[←mq.1];exact hj)] at q
              exact mq.2 j a b p q
            · rw[List.getElem?_append_right (by omega)] at p
              rw[List.getElem?_append_right (by rw[←mq.1];omega),←mq.1] at q
              cases hjj:j - es.length with
              | zero=>rw[hjj] at p q;simp at p q;subst p;subst q;exact ⟨hk,hv,rfl⟩
              | succ n=>rw[hjj] at p;simp at p⟩ rfl
           refine ⟨_,?_,rl,uS⟩
           simp only[Instr.mapUpdate,Sem.run_bind,run_underlying hu,Result.andThen_ok,Hx,OV,pA hd EI hk (h1 w),Sem.run_pure,BP _]
         · simp at e
       · simp at e
   · simp at e
 · simp at e
theorem JW {s:ByteArray} {pos:Nat} {b:UInt8} (h:s.data.toList[pos]? =some b) (hb:b.toNat<128):Utf8.decode s pos=(b.toNat,1):=by
 have hl:pos<s.size:=(List.getElem?_eq_some_iff.1 h).1
 have hb':s[pos]'hl=b:=by
  have:=(List.getElem?_eq_some_iff.1 h).2
  rw[←this];rfl
 rw[decode_ascii s pos hl (by rw[hb'];exact hb),hb']
set_option linter.unusedSimpArgs false in
theorem Tq {φ:Ph} {h h':aw} {w:World} (ok:OK E φ h w) {it v:AV} {b:Bool} (e:Iq h it b=some (v,h')) {it':Value} (hit:VR φ it it') (ty:TypeId):
 Tn E φ h w ((Instr.next it' b ty).run E.P w) v h':=by
 unfold Iq at e
 split at e
 · rename_i r
   cases hit with
   | @ptr _ l _ hφ=>
   split at e
   · rename_i s pos hg
     have Hp:=ok.live r _ l hg hφ
     obtain ⟨Vz,s',hb,s7⟩:=Hp
     have Hx:(getObj l.iw).run E.P w= .ok (.stringIter s' pos) w:=by simp [getObj,Sem.run,hb]
     have e1:s'.size=s.length:=by rw[←s7];cases s';rfl
     split at e
     · rename_i nN
       split at e
       · rename_i c hc
         split at e
         · rename_i ajJ
           simp at e;obtain ⟨rfl,rfl⟩:=e
           have BP:(setObj l.iw (.stringIter s' (pos+1))).run E.P w= .ok () {w with heap:=w.heap.setIfInBounds l.iw (.stringIter s' (pos+1))}:=by simp [setObj,Sem.run,hb]
           have ajK:l.iw<w.heap.size:=by
            rcases Nat.lt_or_ge l.iw w.heap.size with a | a
            · exact a
            · rw[Array.getElem?_eq_none a] at hb;simp at hb
           obtain ⟨rl,uS⟩:=ok.change (w':={w with heap:=w.heap.setIfInBounds l.iw (.stringIter s' (pos+1))}) (o':= .xM s (pos+1)) hg rfl hφ (by simp [ajK];exact ⟨Vz,s',rfl,s7⟩) (fun c fH=>by simp [Array.getElem?_setIfInBounds,Ne.symm fH]) (by simp) rfl rfl rfl
           refine ⟨φ,_,.tuple #[.bool true,.int .i64 pos,.int .i32 c.toNat],?_,VR.tuple' (j4:=[.bool true,.int .i64 pos,.int .i32 c.toNat]) (.cons (.bool true) (.cons (.int _ _) (.cons (.int _ _) (.nil φ)))),rl,uS⟩
           have ajL:=JW (s:=s') (pos:=pos) (b:=c) (by rw[s7];exact hc) ajJ
           have h0:l.off+0=0:=by omega
           simp only[Instr.next,h0,Sem.run_bind,Hx,Result.andThen_ok,e1,nN,if_true,ajL,BP,Sem.run_pure,goInt]
         · simp at e
       · simp at e
     · rename_i nN
       simp at e;obtain ⟨rfl,rfl⟩:=e
       refine ⟨φ,w,.tuple #[.bool false],?_,VR.tuple' (j4:=[.bool false]) (.cons (.bool false) (.nil φ)),ok,Fr.refl φ h w⟩
       have h0:l.off+0=0:=by omega
       simp only[Instr.next,h0,Sem.run_bind,Hx,Result.andThen_ok,e1,nN,if_false,Sem.run_pure]
   · rename_i s1 s2 s3 hg
     have Hp:=ok.live r _ l hg hφ
     obtain ⟨Vz,hb⟩:=Hp
     have Hx:(getObj l.iw).run E.P w= .ok (.mapIter none s1 s2.toArray s3) w:=by simp [getObj,Sem.run,hb]
     simp at e;obtain ⟨rfl,rfl⟩:=e
     refine ⟨φ,w,.tuple #[.bool false],?_,VR.tuple' (j4:=[.bool false]) (.cons (.bool false) (.nil φ)),ok,Fr.refl φ h w⟩
     have h0:l.off+0=0:=by omega
     simp only[Instr.next,h0,Sem.run_bind,Hx,Result.andThen_ok,Sem.run_pure]
   · simp at e
 · simp at e
end Go.Ab
end
section
namespace Go.Ab
variable {E:Env}
def DR (φ:Ph):sX→Deferred→Prop
 | .call f args,d'=>∃cap,d'.target= .fn (.func f) cap∧LR φ args (d'.args++cap).toList
 | .col r,d'=>∃l,φ r=some l∧d'.target= .collected l.iw
def DsR (φ:Ph):List sX→List Deferred→Prop
 | [],[]=>True
 | d::ds,d'::BQ=>DR φ d d'∧DsR φ ds BQ
 | _,_=>False
theorem DR.mono {φ φ':Ph} (hle:φ.le φ') {d:sX} {d':Deferred} (h:DR φ d d'):DR φ' d d':=by
 cases d with
 | call f args=>obtain ⟨c,a,b⟩:=h;exact ⟨c,a,b.mono hle⟩
 | col r=>obtain ⟨l,a,b⟩:=h;exact ⟨l,hle _ _ a,b⟩
theorem DsR.mono {φ φ':Ph} (hle:φ.le φ'):∀{ds:List sX} {BQ:List Deferred} (_:DsR φ ds BQ),DsR φ' ds BQ
 | [],[],_=>trivial
 | _::_,_::_,h=>⟨h.1.mono hle,DsR.mono hle h.2⟩
structure SR (φ:Ph) (ts:List AV) (ds:List sX) (a:Act):Prop where
 ts:LR φ ts a.tmps.toList
 ds:DsR φ ds a.defers
theorem SR.mono {φ φ':Ph} (hle:φ.le φ') {ts:List AV} {ds:List sX} {a:Act} (h:SR φ ts ds a):SR φ' ts ds a:=⟨h.ts.mono hle,h.ds.mono hle⟩
def o8 (φ:Ph) (b:Frame) (K:Bool→List Frame):RC→Prop
 | .no=>b.roundOf=none∧∀fr:Frame,fr.kind=b.kind→tryRecover fr (K false)=none
 | .j5 v=>b.roundOf=none∧(∃v',VR φ v v'∧∀fr:Frame,fr.kind=b.kind→tryRecover fr (K false)=some (v',K true))∧∀fr:Frame,fr.kind=b.kind→tryRecover fr (K true)=none
 | .done=>b.roundOf=none∧∀fr:Frame,fr.kind=b.kind→tryRecover fr (K true)=none
 | .L4 l=>∃ll,φ l=some ll∧b.roundOf=some ll.iw
def cur (K:Bool→List Frame):RC→List Frame
 | .done=>K true
 | _=>K false
def RC.pW:RC→Bool
 | .L4 _=>true
 | _=>false
theorem o8.mono {φ φ':Ph} (hle:φ.le φ') {b:Frame} {K:Bool→List Frame}:∀{rc:RC} (_:o8 φ b K rc),o8 φ' b K rc
 | .no,h=>h
 | .j5 _,h=>let ⟨n,⟨v',a,b⟩,c⟩:=h;⟨n,⟨v',a.mono hle,b⟩,c⟩
 | .done,h=>h
 | .L4 _,h=>let ⟨l,a,b⟩:=h;⟨l,hle _ _ a,b⟩
theorem o8.plain {φ:Ph} {b:Frame} {K:Bool→List Frame} {rc:RC} (h:o8 φ b K rc) (hn:rc.pW=false):b.roundOf=none:=by
 cases rc with
 | no=>exact h.1
 | j5 v=>exact h.1
 | done=>exact h.1
 | L4 l=>simp [RC.pW] at hn
inductive ExR (φ:Ph):lY→Exit→Prop
 | normal:ExR φ .normal .normal
 | exit (id:Nat):ExR φ (.exit id) (.exit id)
 | ret:ExR φ .ret .ret
 | panic (v:AV) (v':Value) (h:VR φ v v'):ExR φ (.panic v) (.panic [{v:=v',recovered:=false}])
def mV (E:Env) (f:FuncId) (args:List AV) (h:aw) (v:AV) (h':aw):Prop:=
 ∀(φ:Ph) (w:World) (vs:List Value),OK E φ h w→LR φ args vs→(callFunc f vs.toArray).run E.P w= .ok (.enter f vs.toArray) w∧
  ∀cs,∃φ' w' v' fr,VR φ' v v'∧OK E φ' h' w'∧Fr φ h w φ' h' w'∧
   Steps E.P (lone (Frame.enter E.P f vs.toArray .normal) cs w) (lone fr cs w')∧fr.fn=f∧fr.leaving E.P w' (.returned v')
def Rm (E:Env) (f:FuncId) (args:List AV) (h:aw) (v:AV) (h':aw):Prop:=
 ∀(φ:Ph) (w:World) (vs:List Value),OK E φ h w→LR φ args vs→(callFunc f vs.toArray).run E.P w= .ok (.enter f vs.toArray) w∧
  ∀cs,∃φ' w' v' fr,VR φ' v v'∧OK E φ' h' w'∧Fr φ h w φ' h' w'∧
   Steps E.P (lone (Frame.enter E.P f vs.toArray .normal) cs w) (lone fr cs w')∧fr.fn=f∧fr.leaving E.P w' (.panicked [{v:=v',recovered:=false}])
inductive pX (E:Env) (φ:Ph) (w:World):Fn→List Value→Next→Frame→Prop
 | fn (f:FuncId) (vs:List Value) (hr:(callFunc f vs.toArray).run E.P w= .ok (.enter f vs.toArray) w):pX E φ w (.fn f) vs (.enter f vs.toArray) (Frame.enter E.P f vs.toArray .normal)
 | CJ (l:Nat) (ll:Loc) (hl:φ l=some ll) (vs:List Value) (f:FuncId) (tmps:Array Value) (assign body:Code) (hr:(Instr.yield ll.iw vs.toArray).run E.P w= .ok (.round ll.iw f tmps assign body) w):
  pX E φ w (.CJ l) vs (.round ll.iw f tmps assign body) (Frame.round ll.iw f tmps assign body .normal)
def VF (φ:Ph):Fn→Prop
 | .fn _=>True
 | .CJ l=>∃ll,φ l=some ll
def Po (E:Env) (F:Fn) (args:List AV) (h:aw) (v:AV) (h':aw):Prop:=
 ∀(φ:Ph) (w:World) (vs:List Value),OK E φ h w→VF φ F→LR φ args vs→∃n start,pX E φ w F vs n start∧
  ∀c cs,∃φ' w' v',VR φ' v v'∧OK E φ' h' w'∧Fr φ h w φ' h' w'∧Steps E.P (lone start (c::cs) w) (lone (c.finish v') cs w')
def Pp (E:Env) (F:Fn) (args:List AV) (h:aw) (v:AV) (h':aw):Prop:=
 ∀(φ:Ph) (w:World) (vs:List Value),OK E φ h w→VF φ F→LR φ args vs→∃n start,pX E φ w F vs n start∧
  ∀c cs,∃φ' w' v',VR φ' v v'∧OK E φ' h' w'∧Fr φ h w φ' h' w'∧Steps E.P (lone start (c::cs) w) (lone (c.raise [{v:=v',recovered:=false}]) cs w')
theorem mV.any {f:FuncId} {args:List AV} {h:aw} {v:AV} {h':aw} (r:mV E f args h v h'):Po E (.fn f) args h v h':=fun φ w vs ok _ hl=>by
 obtain ⟨h1,h2⟩:=r φ w vs ok hl
 refine ⟨_,_,.fn f vs h1,fun c cs=>?_⟩
 obtain ⟨φ',w',v',fr,x1,x2,x3,x4,_,x5⟩:=h2 (c::cs)
 exact ⟨φ',w',v',x1,x2,x3,x4.trans (.one (step_leave_returned x5))⟩
theorem Rm.any {f:FuncId} {args:List AV} {h:aw} {v:AV} {h':aw} (r:Rm E f args h v h'):Pp E (.fn f) args h v h':=fun φ w vs ok _ hl=>by
 obtain ⟨h1,h2⟩:=r φ w vs ok hl
 refine ⟨_,_,.fn f vs h1,fun c cs=>?_⟩
 obtain ⟨φ',w',v',fr,x1,x2,x3,x4,_,x5⟩:=h2 (c::cs)
 exact ⟨φ',w',v',x1,x2,x3,x4.trans (.one (step_leave_panicked x5))⟩
structure ju (E:Env) (call:bm):Prop where
 ret:∀f args h v h',call f args h= .ret v h'→Po E f args h v h'
 panic:∀f args h v h',call f args h= .panic v h'→Pp E f args h v h'
structure l6 (E:Env):Prop where
 ext:acV E
 jS:∀f g,E.jS f=some g→∀args h v h',g args h=some (v,h')→mV E f args h v h'
 names:∀(f:FuncId) (fn:Func),E.P.funcs[f]? =some fn→fn.name≠ "runtime.NumGoroutine"
 mixed:E.P.follows .mixedOrders=true
theorem VG {φ:Ph} {ts:List AV} {a:Act} (h:LR φ ts a.tmps.toList) (d:Option Tmp) {v:AV} {v':Value} (hv:VR φ v v'):LR φ (dA ts d v) (a.put d v').tmps.toList:=by
 cases d with
 | none=>exact h
 | some d=>simp only[dA,Act.put,Array.toList_setIfInBounds];exact h.set hv d
theorem put_defers (a:Act) (d:Option Tmp) (v:Value):(a.put d v).defers=a.defers:=by cases d<;>rfl
theorem SR.put {φ:Ph} {ts:List AV} {ds:List sX} {a:Act} (h:SR φ ts ds a) (d:Option Tmp) {v:AV} {v':Value} (hv:VR φ v v'):SR φ (dA ts d v) ds (a.put d v'):=
 ⟨VG h.ts d hv,by rw[put_defers];exact h.ds⟩
theorem yA {φ:Ph} {ops:Array Oper} {ts:List AV} {a:Act} (h:LR φ ts a.tmps.toList) (o:Oper):Region.wanted o (yielded ops a.tmps)=cO ops ts o:=by
 unfold Region.wanted cO
 cases o.guard with
 | none=>rfl
 | some g=>
   obtain ⟨j,want⟩:=g
   simp only[yielded]
   cases hd:(ops[j]?).bind (·.dst) with
   | none=>simp
   | some d=>
     simp only[Option.bind_some]
     cases hx:ts[d]? with
     | none=>
       have:a.tmps[d]? =none:=by
        have h1:=List.getElem?_eq_none_iff.1 hx
        rw[h.1] at h1
        have:=List.getElem?_eq_none_iff.2 h1
        simpa using this
       simp [this]
     | some x=>
       obtain ⟨y,hy,hv⟩:=h.get hx
       have hy':a.tmps[d]? =some y:=by simpa using hy
       rw[hy']
       cases hv with
       | any _ h=>cases y<;>first | (simp;done) | cases h
       | _=>simp
section
variable {b:Frame} {a:Act} {k:List Item} {cs:List Frame} {w:World} {ops:Array Oper} {i:Nat} {rest:List Nat} {o:Oper}
theorem wN (ho:ops[i]? =some o) (v:Value):(b.atR a (.inRegion ops (i::rest)::k)).finish v=b.atR (a.put o.dst v) (.inRegion ops rest::k):=by
 rw[Frame.finish_atR,ho];rfl
theorem ox {P:Program} (mr:o.semAt b.roundOf a.eval=execOp a.eval o) (ho:ops[i]? =some o) (hw:Region.wanted o (yielded ops a.tmps)=true) {v:Value} {w':World} (hr:(execOp a.eval o).run P w= .ok (.value v) w'):
 step P (lone (b.atR a (.inRegion ops (i::rest)::k)) cs w)= .next (lone (b.atR (a.put o.dst v) (.inRegion ops rest::k)) cs w'):=by
 rw[←wN ho]
 exact step_lone_go (by rw[stepGR_op (rest:=rest) ho hw,mr];simp [stepG.apply,hr])
theorem Mn {P:Program} (mr:o.semAt b.roundOf a.eval=execOp a.eval o) (ho:ops[i]? =some o) (hw:Region.wanted o (yielded ops a.tmps)=true) {w':World} (hr:(execOp a.eval o).run P w= .ok .skip w'):
 step P (lone (b.atR a (.inRegion ops (i::rest)::k)) cs w)= .next (lone (b.atR (a.put o.dst undef) (.inRegion ops rest::k)) cs w'):=by
 rw[←wN ho]
 exact step_lone_go (by rw[stepGR_op (rest:=rest) ho hw,mr];simp [stepG.apply,hr])
theorem zT {φ:Ph} (mr:o.semAt b.roundOf a.eval=execOp a.eval o) (ho:ops[i]? =some o) (hw:Region.wanted o (yielded ops a.tmps)=true) {F:Fn} {vs:List Value} {n:Next} {start:Frame} (hp:pX E φ w F vs n start) (hr:(execOp a.eval o).run E.P w= .ok n w):
 step E.P (lone (b.atR a (.inRegion ops (i::rest)::k)) cs w)= .next (lone start (b.atR a (.inRegion ops (i::rest)::k)::cs) w):=by
 cases hp with
 | fn f vs _=>exact step_lone_go (by rw[stepGR_op (rest:=rest) ho hw,mr];simp [stepG.apply,hr,Frame.atR])
 | CJ l ll hl vs f tmps assign body _=>exact step_lone_go (by rw[stepGR_op (rest:=rest) ho hw,mr];simp [stepG.apply,hr,Frame.atR])
theorem VH {P:Program} (mr:o.semAt b.roundOf a.eval=execOp a.eval o) (ho:ops[i]? =some o) (hw:Region.wanted o (yielded ops a.tmps)=true) {v:Value} {w':World} (hr:(execOp a.eval o).run P w= .halt (.panic v) w'):
 step P (lone (b.atR a (.inRegion ops (i::rest)::k)) cs w)= .next (lone {b.atR a (.inRegion ops (i::rest)::k) with mode:= .panicking [{v,recovered:=false}]} cs w'):=by
 rw[←Frame.raise_atR]
 exact step_lone_go (by rw[stepGR_op (rest:=rest) ho hw,mr];simp [stepG.apply,hr])
theorem Tr {P:Program} (mr:o.semAt b.roundOf a.eval=execOp a.eval o) (ho:ops[i]? =some o) (hw:Region.wanted o (yielded ops a.tmps)=true) {d:Deferred} {w':World} (hr:(execOp a.eval o).run P w= .ok (.defer d) w'):
 step P (lone (b.atR a (.inRegion ops (i::rest)::k)) cs w)= .next (lone (b.atR ({a with defers:=d::a.defers}.put o.dst undef) (.inRegion ops rest::k)) cs w'):=by
 have:({b.atR a (.inRegion ops (i::rest)::k) with defers:=d::a.defers}:Frame).finish undef=
  b.atR ({a with defers:=d::a.defers}.put o.dst undef) (.inRegion ops rest::k):=by
  have:=Frame.finish_atR b {a with defers:=d::a.defers} ops i rest k undef
  rw[ho] at this;exact this
 refine step_lone_go ?_
 rw[stepGR_op (rest:=rest) ho hw,mr]
 simp only[stepG.apply,Sem.runT_eq,hr,GStep.bare_after]
 exact congrArg (fun fr=>GStep.go {frame:=fr,callers:=cs,status:= .running,dying:=none} w') this
theorem Pq {P:Program} (BR:b.roundOf=none) (mr:o.semAt b.roundOf a.eval=execOp a.eval o) (ho:ops[i]? =some o) (hw:Region.wanted o (yielded ops a.tmps)=true) {w':World} (hr:(execOp a.eval o).run P w= .ok .recover w') {v:Value} {j4:List Frame}
 (ht:tryRecover (b.atR a (.inRegion ops (i::rest)::k)) cs=some (v,j4)):
 step P (lone (b.atR a (.inRegion ops (i::rest)::k)) cs w)= .next (lone (b.atR (a.put o.dst v) (.inRegion ops rest::k)) j4 w'):=by
 rw[←wN ho]
 refine step_lone_go ?_
 rw[stepGR_op (rest:=rest) ho hw,mr]
 have VI:(b.atR a (.inRegion ops (i::rest)::k)).roundOf=none:=BR
 simp only[stepG.apply,Sem.runT_eq,if_true,hr,GStep.bare_after,VI,ht,GStep.bare_go]
theorem xQ {P:Program} (BR:b.roundOf=none) (mr:o.semAt b.roundOf a.eval=execOp a.eval o) (ho:ops[i]? =some o) (hw:Region.wanted o (yielded ops a.tmps)=true) {w':World} (hr:(execOp a.eval o).run P w= .ok .recover w')
 (ht:tryRecover (b.atR a (.inRegion ops (i::rest)::k)) cs=none):
 step P (lone (b.atR a (.inRegion ops (i::rest)::k)) cs w)= .next (lone (b.atR (a.put o.dst .nilIface) (.inRegion ops rest::k)) cs w'):=by
 rw[←wN ho]
 refine step_lone_go ?_
 rw[stepGR_op (rest:=rest) ho hw,mr]
 have VI:(b.atR a (.inRegion ops (i::rest)::k)).roundOf=none:=BR
 simp only[stepG.apply,Sem.runT_eq,if_true,hr,GStep.bare_after,VI,ht,GStep.bare_go]
end
def agX (P:Program) (m:Machine) (b:Frame) (ops:Array Oper) (rest:List Nat) (k:List Item) (cs:List Frame):Exit→Act→World→Prop
 | .normal,a,w=>Steps P m (lone (b.atR a (.inRegion ops rest::k)) cs w)
 | .panic chain,a,w=>∃todo,Steps P m (lone {b.atR a todo with mode:= .panicking chain} cs w)
 | _,_,_=>False
def Rn (φ:Ph):Fn→Target→List Value→List Value→Prop
 | .fn f,t,vs,all=>∃cap:List Value,t= .fn (.func f) cap.toArray∧all=vs++cap
 | .CJ l,t,vs,all=>∃ll,φ l=some ll∧t= .fn (.yield ll.iw) #[]∧all=vs
theorem Rn.agY {φ:Ph} {F:Fn} {t:Target} {vs all:List Value} (h:Rn φ F t vs all):VF φ F:=by
 cases F with
 | fn f=>trivial
 | CJ l=>obtain ⟨ll,h,_⟩:=h;exact ⟨ll,h⟩
theorem EM {φ:Ph} (hg:GL E φ) {ts:List AV} {a:Act} (ht:LR φ ts a.tmps.toList) {c:Call} {f:Fn} {args:List AV} (h:callee E ts c=some (f,args)) (ty:TypeId):
 ∃(t:Target) (vs all:List Value),LR φ args all∧Rn φ f t vs all∧∀w,(resolve a.eval c ty).run E.P w= .ok {target:=t,args:=vs.toArray} w:=by
 unfold callee at h
 split at h
 · rename_i x hcx
   split at h
   · rename_i g first captured as hx has
     simp at h;obtain ⟨rfl,rfl⟩:=h
     have h1:=o6 hg ht hx
     have h2:=jt hg ht has
     generalize mD:a.eval x=cv at h1
     obtain ⟨fs',j4,rfl,hf,hc⟩:=h1.Et
     refine ⟨.fn (.func g) j4.toList.toArray,fs'.toList++c.args.toList.map a.eval,_,?_,⟨j4.toList,rfl,rfl⟩,fun w=>?_⟩
     · rw[List.append_assoc]
       have:=(hf.append h2).append hc
       simpa [List.append_assoc] using this
     · simp [resolve,hcx,Deferred.ofValue,mD,map_toArray]
   · rename_i l as hx has
     simp at h;obtain ⟨rfl,rfl⟩:=h
     have h1:=o6 hg ht hx
     have h2:=jt hg ht has
     generalize mD:a.eval x=cv at h1
     cases h1 with
     | yield hl=>
       refine ⟨_,c.args.toList.map a.eval,_,h2,⟨_,hl,rfl,rfl⟩,fun w=>?_⟩
       simp [resolve,hcx,Deferred.ofValue,mD,map_toArray]
   · simp at h
 · simp at h
theorem HA {φ:Ph} {w:World} {F:Fn} {t:Target} {vs all:List Value} (ht:Rn φ F t vs all) {n:Next} {start:Frame} (hp:pX E φ w F all n start):(invoke t vs.toArray).run E.P w= .ok n w:=by
 cases hp with
 | fn f s9 hr=>
   obtain ⟨cap,rfl,rfl⟩:=ht
   simpa [invoke] using hr
 | CJ l ll hl s9 f tmps assign body hr=>
   obtain ⟨ll',hl',rfl,rfl⟩:=ht
   rw[hl] at hl';simp at hl';subst hl'
   simpa [invoke] using hr
theorem tb {φ:Ph} {b:Frame} {K:Bool→List Frame} {rc:RC} (iv:o8 φ b K rc) {o:Oper} (h:rc.pW=false∨∀c,o.op≠ .defer c) (ρ:Operand→Value):o.semAt b.roundOf ρ=execOp ρ o:=by
 rcases h with h | h
 · rw[iv.plain h];rfl
 · exact Oper.semAt_eq _ _ _ h
end Go.Ab
end
section
namespace Go.Ab
variable {E:Env}
theorem EN {rc:RC} (h:∀l,rc= .L4 l→False):rc.pW=false:=by
 cases rc<;>first | rfl | exact (h _ rfl).elim
theorem OK.gl {φ:Ph} {h:aw} {w:World} (ok:OK E φ h w):GL E φ:=ok.yu
inductive vr (E:Env) (call:bm) (φ:Ph) (ts:List AV) (h:aw) (rc:RC) (o:Oper) (a:Act) (w:World):BE→Prop
 | val (v:AV) (h':aw) (φ':Ph) (w':World) (v':Value) (hv:VR φ' v v') (ok:OK E φ' h' w') (fr:Fr φ h w φ' h' w')
  (run:(execOp a.eval o).run E.P w= .ok (.value v') w'):vr E call φ ts h rc o a w (.val v h')
 | skip (h':aw) (φ':Ph) (w':World) (ok:OK E φ' h' w') (fr:Fr φ h w φ' h' w')
  (run:(execOp a.eval o).run E.P w= .ok .skip w'):vr E call φ ts h rc o a w (.val AV.undef h')
 | enter (v:AV) (h':aw) (F:Fn) (args:List AV) (all:List Value) (hr:Po E F args h v h') (hf:VF φ F) (hl:LR φ args all)
  (run:∀n start,pX E φ w F all n start→(execOp a.eval o).run E.P w= .ok n w):vr E call φ ts h rc o a w (.val v h')
 | aai (v:AV) (h':aw) (F:Fn) (args:List AV) (all:List Value) (hr:Pp E F args h v h') (hf:VF φ F) (hl:LR φ args all)
  (run:∀n start,pX E φ w F all n start→(execOp a.eval o).run E.P w= .ok n w):vr E call φ ts h rc o a w (.panic v h')
 | defer (d:sX) (d':Deferred) (Hq:rc.pW=false) (hd:DR φ d d') (run:(execOp a.eval o).run E.P w= .ok (.defer d') w):vr E call φ ts h rc o a w (.defer d)
 | panic (v:AV) (v':Value) (hv:VR φ v v') (run:(execOp a.eval o).run E.P w= .halt (.panic v') w):vr E call φ ts h rc o a w (.panic v h)
 | uw (v:AV) (iv:rc= .j5 v) (run:(execOp a.eval o).run E.P w= .ok .recover w):vr E call φ ts h rc o a w (.uw v)
 | VJ (iv:∀v,rc≠ .j5 v) (Hq:rc.pW=false) (run:(execOp a.eval o).run E.P w= .ok .recover w):vr E call φ ts h rc o a w (.val .nilIface h)
 | fail (why:String) (q:Option Oper):vr E call φ ts h rc o a w (.fail why q)
theorem Mo {t:TypeId} {name:String} {f:FuncId} (h:zK E t name=some f) (v:Value) (w:World):(method (E.P.types.size+Made.depth) t v name).run E.P w= .ok (f,v) w:=by
 unfold zK at h
 split at h
 · rename_i i hi
   split at h
   · rename_i m hm
     split at h
     · rename_i hp
       split at h
       · simp at h
       · rename_i g d fH hf hu
         simp at h;subst h
         have Tj:m.path.toList=[]:=by simpa using hp
         have e:E.P.types.size+Made.depth=(E.P.types.size+99)+1:=rfl
         rw[e,method]
         have hti:(typeInfo t).run E.P w= .ok i w:=by simp [typeInfo,hi]
         simp only[Sem.run_bind,hti,Result.andThen_ok,hm,Tj,follow,Sem.run_pure,hf,receiverAt,run_underlying hu]
         cases d with
         | pointer x=>exact absurd rfl (fH x)
         | _=>simp [Place.get]
       · simp at h
     · simp at h
   · simp at h
 · simp at h
theorem zU {call:bm} {φ:Ph} {ts:List AV} {h:aw} {rc:RC} {o:Oper} {a:Act} {w:World} {s:Sem Value} {v:AV} {h':aw} (hd:Tn E φ h w (s.run E.P w) v h')
 (he:execOp a.eval o=(do pure (.value (←s)):Sem Next)):vr E call φ ts h rc o a w (.val v h'):=by
 obtain ⟨φ',w',v',hr,hv,ok,fr⟩:=hd
 exact .val v h' φ' w' v' hv ok fr (by rw[he];exact gC hr)
set_option maxHeartbeats 1000000 in
theorem yB (hE:l6 E) {call:bm} (dY:ju E call) {φ:Ph} {ts:List AV} {h:aw} {rc:RC} {o:Oper} {a:Act} {w:World} (ht:LR φ ts a.tmps.toList) (ok:OK E φ h w):
 vr E call φ ts h rc o a w (dL E call ts h rc o):=by
 have ev:∀{x:Operand} {v:AV},fJ E ts x=some v→VR φ v (a.eval x):=fun h=>o6 ok.gl ht h
 obtain ⟨dst,op,ty,pos,after,guard⟩:=o
 unfold dL
 simp only
 split
 ·
  split
  · rename_i ha hx
    split
    · rename_i h' kB
      obtain ⟨w',hr,rl,uS⟩:=Pg ok (ev ha) (ev hx) kB
      exact .skip h' φ w' rl uS (by simp [execOp,hr])
    · exact .fail _ _
  · exact .fail _ _
 ·
  split
  · rename_i hm hk hx
    split
    · rename_i h' kB
      obtain ⟨w',hr,rl,uS⟩:=vq ok (ev hm) (ev hk) (ev hx) kB
      exact .skip h' φ w' rl uS (by simp [execOp,hr])
    · exact .fail _ _
  · exact .fail _ _
 ·
  split
  · rename_i hm hk hx
    split
    · rename_i h' kB
      obtain ⟨w',hr,rl,uS⟩:=vq ok (ev hm) (ev hk) (ev hx) kB
      exact .skip h' φ w' rl uS (by simp [execOp,hr])
    · exact .fail _ _
  · exact .fail _ _
 ·
  rename_i src dst x
  split
  · rename_i v h' hc
    cases hx:fJ E ts x with
    | none=>rw[hx] at hc;simp [Ir] at hc
    | some xv=>
      rw[hx] at hc
      exact zU (Tp ok hc (ev hx)) rfl
  · exact .fail _ _
 ·
  split
  · rename_i hi
    split
    · rename_i hn
      exact zU (Tq ok hn (ev hi) ty) rfl
    · exact .fail _ _
  · exact .fail _ _
 ·
  split
  · rename_i hx
    have h1:=ev hx
    generalize mD:a.eval _=cv at h1
    cases h1 with
    | iface t1 v1 v' hv=>
    exact .panic _ _ (.iface _ _ v' hv) (by simp [execOp,mD,Instr.panic])
  · exact .fail _ _
 ·
  split
  · exact .fail _ _
  · rename_i f args Hq hc
    obtain ⟨t,vs,all,hl,⟨cap,rfl,rfl⟩,hr⟩:=EM ok.gl ht hc ty
    exact .defer _ {target:= .fn (.func f) cap.toArray,args:=vs.toArray} (EN Hq) ⟨cap.toArray,rfl,by simpa using hl⟩ (by simp [execOp,hr])
  · exact .fail _ _
 ·
  rename_i c
  split
  ·
   rename_i HB
   split
   · rename_i s x has
     have hl:=jt ok.gl ht has
     obtain ⟨s',r1,hr1,hs,hl1⟩:=hl.dM
     obtain ⟨x',r2,hr2,hx,U5⟩:=hl1.dM
     have h0:c.args.map a.eval= #[s',x']:=by rw[map_toArray,hr1,hr2,U5.kA]
     split
     · rename_i hap
       exact zU (Mj ok hap hs hx ty) (by simp [execOp,resolve,HB,invoke,builtin,h0])
     · exact .fail _ _
   · exact .fail _ _
  ·
   rename_i HB
   split
   · rename_i s x has
     have hl:=jt ok.gl ht has
     obtain ⟨s',r1,hr1,hs,hl1⟩:=hl.dM
     obtain ⟨x',r2,hr2,hx,U5⟩:=hl1.dM
     have h0:c.args.map a.eval= #[s',x']:=by rw[map_toArray,hr1,hr2,U5.kA]
     split
     · rename_i hap
       exact zU (To ok hap hs hx ty) (by simp [execOp,resolve,HB,invoke,builtin,h0])
     · exact .fail _ _
   · exact .fail _ _
  ·
   rename_i HB
   have jf:(execOp a.eval ⟨dst,.call c,ty,pos,after,guard⟩).run E.P w= .ok .recover w:=by simp [execOp,resolve,HB,invoke,builtin]
   split
   · exact .uw _ rfl jf
   · exact .fail _ _
   · rename_i fH Hq
     exact .VJ (fun v e=>fH v e) (EN Hq) jf
  ·
   rename_i fo HB
   split
   · rename_i F args hc
     obtain ⟨t,vs,all,hl,htg,hr⟩:=EM ok.gl ht hc ty
     have jf:∀n start,pX E φ w F all n start→(execOp a.eval ⟨dst,.call c,ty,pos,after,guard⟩).run E.P w= .ok n w:=fun n start hp=>by
      have:=HA htg hp
      simp [execOp,hr,this]
     split
     · rename_i g hg
       split
       · rename_i v h' hgv
         cases F with
         | fn f=>exact .enter v h' (.fn f) args all (hE.jS f g hg args h v h' hgv).any trivial hl jf
         | CJ l=>simp [lp] at hg
       · exact .fail _ _
     · split
       · rename_i v h' mD
         exact .enter v h' F args all (dY.ret F args h v h' mD) htg.agY hl jf
       · rename_i v h' mD
         exact .aai v h' F args all (dY.panic F args h v h' mD) htg.agY hl jf
       · exact .fail _ _
   · exact .fail _ _
  ·
   rename_i r name HB
   split
   · rename_i t x args hx has
     split
     · rename_i f hm
       have h1:=ev hx
       generalize mD:a.eval r=cv at h1
       cases h1 with
       | iface t1 v1 v' hv=>
       have hl:LR φ (x::args) (v'::c.args.toList.map a.eval):= .cons hv (jt ok.gl ht has)
       have jf:∀n start,pX E φ w (.fn f) (v'::c.args.toList.map a.eval) n start→(execOp a.eval ⟨dst,.call c,ty,pos,after,guard⟩).run E.P w= .ok n w:=fun n start hp=>by
        cases hp with
        | fn f s9 hr=>
        have e1:(#[v']++(c.args.map a.eval))=(v'::c.args.toList.map a.eval).toArray:=by rw[map_toArray];simp
        have e2:(#[Value.iface t v']++c.args.map a.eval).extract 1 (#[Value.iface t v']++c.args.map a.eval).size=c.args.map a.eval:=by
         apply Array.ext';simp
         exact List.take_of_length_le (by simp)
        have e3:(#[Value.iface t v']++c.args.map a.eval)[0]? =some (Value.iface t v'):=by rw[Array.getElem?_append];rfl
        simp only[execOp,resolve,HB,mD,Sem.run_bind,Sem.run_pure,Result.andThen_ok,invoke,e3,e2,callMethod,run_program,Mo hm,e1,hr]
       split
       · rename_i v h' ad1
         exact .enter v h' (.fn f) _ _ (dY.ret (.fn f) _ h v h' ad1) trivial hl jf
       · rename_i v h' ad1
         exact .aai v h' (.fn f) _ _ (dY.panic (.fn f) _ h v h' ad1) trivial hl jf
       · exact .fail _ _
     · exact .fail _ _
   · exact .fail _ _
  · exact .fail _ _
 · exact .fail _ _
structure agZ (E:Env) (φ:Ph) (h:aw) (w:World) (b:Frame) (K:Bool→List Frame) (ops:Array Oper) (rest:List Nat) (k:List Item) (m:Machine) (e:lY) (s':St):Prop where
 is:∃φ' w' a' e',ExR φ' e e'∧SR φ' s'.ts s'.ds a'∧OK E φ' s'.h w'∧Fr φ h w φ' s'.h w'∧o8 φ' b K s'.rc∧agX E.P m b ops rest k (cur K s'.rc) e' a' w'
set_option maxHeartbeats 1000000 in
theorem IA (hE:l6 E) {call:bm} (dY:ju E call) {ops:Array Oper} {i:Nat} {rest:List Nat} {o:Oper} (ho:ops[i]? =some o) {s s':St} {e:lY} (rM:JJ E call s o= .ok e s')
 {φ:Ph} {a:Act} {w:World} {b:Frame} {k:List Item} {K:Bool→List Frame} (hs:SR φ s.ts s.ds a) (ok:OK E φ s.h w) (iv:o8 φ b K s.rc) (hw:Region.wanted o (yielded ops a.tmps)=true):
 agZ E φ s.h w b K ops rest k (lone (b.atR a (.inRegion ops (i::rest)::k)) (cur K s.rc) w) e s':=by
 have mr:(s.rc.pW=false∨∀c,o.op≠ .defer c)→o.semAt b.roundOf a.eval=execOp a.eval o:=fun h=>tb iv h _
 unfold JJ at rM
 split at rM
 · rename_i v hp
   have qG:s.rc.pW=false∨∀c,o.op≠ .defer c:= .inr (fun c e=>by rw[e] at hp;simp [bx] at hp)
   simp at rM;obtain ⟨rfl,rfl⟩:=rM
   obtain ⟨v',hv,hr⟩:=CO hE.ext ok.gl hs.ts hp
   exact ⟨φ,w,_,_,.normal,hs.put o.dst hv,ok,Fr.refl _ _ _,iv,.one (ox (mr qG) ho hw (hr w))⟩
 · split at rM
   · rename_i v hp
     have qG:s.rc.pW=false∨∀c,o.op≠ .defer c:= .inr (fun c e=>by rw[e] at hp;simp [fb] at hp)
     simp at rM;obtain ⟨rfl,rfl⟩:=rM
     obtain ⟨v',hv,hr⟩:=CS ok.gl ok hs.ts hp
     exact ⟨φ,w,_,_,.normal,hs.put o.dst hv,ok,Fr.refl _ _ _,iv,.one (ox (mr qG) ho hw (hr w rfl))⟩
   · split at rM
     · rename_i obj mk hp
       have qG:s.rc.pW=false∨∀c,o.op≠ .defer c:= .inr (fun c e=>by rw[e] at hp;simp [fp] at hp)
       split at rM
       · rename_i h' hn
         simp at rM;obtain ⟨rfl,rfl⟩:=rM
         obtain ⟨O,mk',Mp,hr⟩:=zQ ok.gl hs.ts hp
         obtain ⟨rl,uS,hle⟩:=ok.fresh (w':=w.alloc O) hn ⟨w.heap.size,0,0⟩ (by
          have:=Mp.obj (φ.add s.h.nx ⟨w.heap.size,0,0⟩) w.heap.size (fun i m hm=>by
           unfold Ph.add;split
           · rename_i e;subst e;exact absurd (ok.Dz _ _ hm) (Nat.lt_irrefl _)
           · exact hm)
          rw[show (w.alloc O).heap=w.heap.push O from rfl]
          simpa using this)
          (fun c fH hc=>by rw[show (w.alloc O).heap=w.heap.push O from rfl,Array.getElem?_push,if_neg (by simpa using fH)]) (by simp) (Nat.le_refl _) rfl rfl rfl
         have hv:=Mp.val (φ.add s.h.nx ⟨w.heap.size,0,0⟩) s.h.nx w.heap.size hle (by simp [Ph.add])
         exact ⟨_,_,_,_,.normal,(hs.mono hle).put o.dst hv,rl,uS,iv.mono hle,.one (ox (mr qG) ho hw (hr w))⟩
       · simp at rM
     · have vt:=yB hE dY (rc:=s.rc) (o:=o) hs.ts ok
       have qG:(∃d,dL E call s.ts s.h s.rc o= .defer d)∨(∃why q,dL E call s.ts s.h s.rc o= .fail why q)∨(s.rc.pW=false∨∀c,o.op≠ .defer c):=by
        by_cases hd:∃c,o.op= .defer c
        · obtain ⟨c,hd⟩:=hd
          unfold dL
          simp only[hd]
          split
          · exact .inr (.inl ⟨_,_,rfl⟩)
          · exact .inl ⟨_,rfl⟩
          · exact .inr (.inl ⟨_,_,rfl⟩)
        · exact .inr (.inr (.inr (fun c e=>hd ⟨c,e⟩)))
       generalize dL E call s.ts s.h s.rc o=eo at rM vt qG
       cases vt with
       | val v h' φ' w' v' hv uy fr run=>
         have qG:=(qG.resolve_left (by simp)).resolve_left (by simp)
         simp at rM;obtain ⟨rfl,rfl⟩:=rM
         exact ⟨φ',w',_,_,.normal,(hs.mono fr.ext).put o.dst hv,uy,fr,iv.mono fr.ext,.one (ox (mr qG) ho hw run)⟩
       | skip h' φ' w' uy fr run=>
         have qG:=(qG.resolve_left (by simp)).resolve_left (by simp)
         simp at rM;obtain ⟨rfl,rfl⟩:=rM
         exact ⟨φ',w',_,_,.normal,(hs.mono fr.ext).put o.dst (VR.undef φ'),uy,fr,iv.mono fr.ext,.one (Mn (mr qG) ho hw run)⟩
       | enter v h' F args all hr hf hl run=>
         have qG:=(qG.resolve_left (by simp)).resolve_left (by simp)
         simp at rM;obtain ⟨rfl,rfl⟩:=rM
         obtain ⟨n,start,hp,kB⟩:=hr φ w all ok hf hl
         obtain ⟨φ',w',v',hv,uy,fr,kp⟩:=kB (b.atR a (.inRegion ops (i::rest)::k)) (cur K s.rc)
         rw[wN ho] at kp
         exact ⟨φ',w',_,_,.normal,(hs.mono fr.ext).put o.dst hv,uy,fr,iv.mono fr.ext,.head (zT (mr qG) ho hw hp (run n start hp)) kp⟩
       | aai v h' F args all hr hf hl run=>
         have qG:=(qG.resolve_left (by simp)).resolve_left (by simp)
         simp at rM;obtain ⟨rfl,rfl⟩:=rM
         obtain ⟨n,start,hp,kB⟩:=hr φ w all ok hf hl
         obtain ⟨φ',w',v',hv,uy,fr,kp⟩:=kB (b.atR a (.inRegion ops (i::rest)::k)) (cur K s.rc)
         rw[Frame.raise_atR] at kp
         exact ⟨φ',w',a,_,.panic v v' hv,hs.mono fr.ext,uy,fr,iv.mono fr.ext,.inRegion ops (i::rest)::k,.head (zT (mr qG) ho hw hp (run n start hp)) kp⟩
       | defer d d' Hq hd run=>
         simp at rM;obtain ⟨rfl,rfl⟩:=rM
         have h1:SR φ s.ts (d::s.ds) {a with defers:=d'::a.defers}:=⟨hs.ts,hd,hs.ds⟩
         exact ⟨φ,w,_,_,.normal,h1.put o.dst (VR.undef φ),ok,Fr.refl _ _ _,iv,.one (Tr (tb iv (.inl Hq) _) ho hw run)⟩
       | panic v v' hv run=>
         have qG:=(qG.resolve_left (by simp)).resolve_left (by simp)
         simp at rM;obtain ⟨rfl,rfl⟩:=rM
         exact ⟨φ,w,a,_,.panic v v' hv,hs,ok,Fr.refl _ _ _,iv,_,.one (VH (mr qG) ho hw run)⟩
       | uw v ajM run=>
         simp at rM;obtain ⟨rfl,rfl⟩:=rM
         rw[ajM] at iv ⊢
         have VK:=iv.plain rfl
         have ag0:=tb iv (o:=o) (.inl rfl) a.eval
         obtain ⟨_,⟨v',hv,htr⟩,ag1⟩:=iv
         exact ⟨φ,w,_,_,.normal,hs.put o.dst hv,ok,Fr.refl _ _ _,⟨VK,ag1⟩,.one (Pq VK ag0 ho hw run (htr _ rfl))⟩
       | VJ fH Hq run=>
         simp at rM;obtain ⟨rfl,rfl⟩:=rM
         have Ho:∀fr:Frame,fr.kind=b.kind→tryRecover fr (cur K s.rc)=none:=by
          cases JX:s.rc with
          | no=>rw[JX] at iv;exact iv.2
          | j5 v=>exact absurd JX (fH v)
          | done=>rw[JX] at iv;exact iv.2
          | L4 l=>rw[JX] at Hq;simp [RC.pW] at Hq
         exact ⟨φ,w,_,_,.normal,hs.put o.dst .nilIface,ok,Fr.refl _ _ _,iv,.one (xQ (iv.plain Hq) (tb iv (.inl Hq) _) ho hw run (Ho _ rfl))⟩
       | fail why q=>simp at rM
end Go.Ab
end
section
namespace Go.Ab
variable {E:Env}
def zV (E:Env) (ts nM:List AV) (op:Op):Prop:=∀x∈op.operands,fJ E ts x=fJ E nM x
theorem zW {α β:Type} {f g:α→Option β}:∀{l:List α} (_:∀x∈l,f x=g x),fE f l=fE g l
 | [],_=>rfl
 | x::xs,h=>by simp only[fE,h x (by simp),zW (l:=xs) (fun y hy=>h y (by simp [hy]))]
theorem qN {ts nM:List AV} {l:List Operand} (h:∀x∈l,fJ E ts x=fJ E nM x):hT E ts l=hT E nM l:=zW h
theorem tc {ts nM:List AV}:∀{l:List (Nat×Operand)} (_:∀x∈l.map (·.2),fJ E ts x=fJ E nM x),lM E ts l=lM E nM l
 | [],_=>rfl
 | (i,o)::l,h=>by simp only[lM,h o (by simp),tc (l:=l) (fun y hy=>h y (by simp at hy ⊢;exact .inr hy))]
theorem vu {ts nM:List AV} {o:Option Operand} (h:∀x∈o.toArray,fJ E ts x=fJ E nM x):ov E ts o=ov E nM o:=by
 cases o with
 | none=>rfl
 | some o=>simp only[ov,h o (by simp)]
theorem zX {ts nM:List AV} {c:Call} (h:∀x∈c.operands,fJ E ts x=fJ E nM x):callee E ts c=callee E nM c:=by
 unfold callee
 cases hc:c.callee with
 | value f=>
   have h1:fJ E ts f=fJ E nM f:=h f (by simp [Call.operands,hc])
   have h2:hT E ts c.args.toList=hT E nM c.args.toList:=qN (fun x hx=>h x (by simp [Call.operands,hc];exact .inr (by simpa using hx)))
   simp only[h1,h2]
 | invoke _ _=>rfl
 | builtin _=>rfl
theorem o9 {ts nM:List AV} {c:Call} (h:∀x∈c.operands,fJ E ts x=fJ E nM x):hT E ts c.args.toList=hT E nM c.args.toList:=
 qN (fun x hx=>h x (by simp [Call.operands];exact .inr (by simpa using hx)))
theorem Mq {ts nM:List AV} {op:Op} (h:zV E ts nM op):bx E ts op=bx E nM op:=by
 cases op with
 | call c=>
   have hc:=o9 (E:=E) (ts:=ts) (nM:=nM) (c:=c) h
   obtain ⟨callee,args,argTypes⟩:=c
   simp only at hc
   cases callee with
   | builtin b=>cases b<;>simp only[bx,hc]
   | value f=>cases f<;>simp only[bx,hc]
   | invoke r m=>simp only[bx]
 | build t ps=>
   have:lM E ts ps.toList=lM E nM ps.toList:=tc (fun x hx=>h x (by simpa [Op.operands] using hx))
   simp only[bx,this]
 | makeFunc fn first captured=>
   cases fn with
   | func f=>
     have h1:hT E ts first.toList=hT E nM first.toList:=qN (fun x hx=>h x (by simp [Op.operands];exact .inl (by simpa using hx)))
     have h2:hT E ts captured.toList=hT E nM captured.toList:=qN (fun x hx=>h x (by simp [Op.operands];exact .inr (by simpa using hx)))
     simp only[bx,h1,h2]
   | _=>simp only[bx]
 | slice t x lo hi mx=>
   have h0:fJ E ts x=fJ E nM x:=h x (by simp [Op.operands])
   have h1:ov E ts lo=ov E nM lo:=vu (fun y hy=>h y (by simp [Op.operands] at hy ⊢;exact .inr (.inl hy)))
   have h2:ov E ts hi=ov E nM hi:=vu (fun y hy=>h y (by simp [Op.operands] at hy ⊢;exact .inr (.inr (.inl hy))))
   have h3:ov E ts mx=ov E nM mx:=vu (fun y hy=>h y (by simp [Op.operands] at hy ⊢;exact .inr (.inr (.inr hy))))
   simp only[bx,h0,h1,h2,h3]
 | move x=>simp only[bx,h x (by simp [Op.operands])]
 | assign x=>simp only[bx,h x (by simp [Op.operands])]
 | pick c a b=>simp only[bx,h c (by simp [Op.operands]),h a (by simp [Op.operands]),h b (by simp [Op.operands])]
 | nilCheck x=>simp only[bx,h x (by simp [Op.operands])]
 | binOp o t x y u=>simp only[bx,h x (by simp [Op.operands]),h y (by simp [Op.operands])]
 | unOp o t x=>simp only[bx,h x (by simp [Op.operands])]
 | convert s d x=>simp only[bx,h x (by simp [Op.operands])]
 | makeInterface t x=>simp only[bx,h x (by simp [Op.operands])]
 | fieldAddr s x f=>simp only[bx,h x (by simp [Op.operands])]
 | field s x f=>simp only[bx,h x (by simp [Op.operands])]
 | indexAddr t x i=>simp only[bx,h x (by simp [Op.operands]),h i (by simp [Op.operands])]
 | index t x i=>simp only[bx,h x (by simp [Op.operands]),h i (by simp [Op.operands])]
 | extract x i=>simp only[bx,h x (by simp [Op.operands])]
 | typeAssert x a b ok=>simp only[bx,h x (by simp [Op.operands])]
 | _=>simp only[bx]
theorem Mr {ts nM:List AV} {op:Op} (h:zV E ts nM op) (hp:aw):fb E ts hp op=fb E nM hp op:=by
 cases op with
 | call c=>
   have hc:=o9 (E:=E) (ts:=ts) (nM:=nM) (c:=c) h
   obtain ⟨callee,args,argTypes⟩:=c
   simp only at hc
   cases callee with
   | builtin b=>cases b<;>simp only[fb,hc]
   | value f=>simp only[fb]
   | invoke r m=>simp only[fb]
 | load t a=>simp only[fb,h a (by simp [Op.operands])]
 | convert s d x=>simp only[fb,h x (by simp [Op.operands])]
 | lookup t x i ok=>simp only[fb,h x (by simp [Op.operands]),h i (by simp [Op.operands])]
 | _=>simp only[fb]
theorem JY {ts nM:List AV} {op:Op} (h:zV E ts nM op):fp E ts op=fp E nM op:=by
 cases op with
 | buildSlice t n ps=>
   have:lM E ts ps.toList=lM E nM ps.toList:=tc (fun x hx=>h x (by simpa [Op.operands] using hx))
   simp only[fp,this]
 | box t x=>simp only[fp,h x (by simp [Op.operands])]
 | makeSlice t l c=>simp only[fp,h l (by simp [Op.operands]),h c (by simp [Op.operands])]
 | makeMap t r=>
   cases r with
   | none=>simp only[fp]
   | some r=>simp only[fp,h r (by simp [Op.operands])]
 | range t x=>simp only[fp,h x (by simp [Op.operands])]
 | _=>simp only[fp]
theorem EO {call:bm} {ts nM:List AV} {o:Oper} (h:zV E ts nM o.op) (hp:aw) (rc:RC):dL E call ts hp rc o=dL E call nM hp rc o:=by
 obtain ⟨dst,op,ty,pos,after,guard⟩:=o
 simp only at h
 unfold dL
 cases op with
 | call c=>
   have hc:=o9 (E:=E) (ts:=ts) (nM:=nM) (c:=c) h
   have HB:=zX (E:=E) (ts:=ts) (nM:=nM) (c:=c) h
   cases hcc:c.callee with
   | invoke r name=>
     have hr:fJ E ts r=fJ E nM r:=h r (by simp [Op.operands,Call.operands,hcc])
     simp only[hcc,hc,hr]
   | builtin b=>cases b<;>simp only[hcc,hc]
   | value f=>simp only[hcc,HB]
 | defer c=>simp only[zX (E:=E) (ts:=ts) (nM:=nM) (c:=c) h]
 | store t a x=>simp only[h a (by simp [Op.operands]),h x (by simp [Op.operands])]
 | mapUpdate t m k x=>simp only[h m (by simp [Op.operands]),h k (by simp [Op.operands]),h x (by simp [Op.operands])]
 | insert t m k x=>simp only[h m (by simp [Op.operands]),h k (by simp [Op.operands]),h x (by simp [Op.operands])]
 | convert s d x=>simp only[h x (by simp [Op.operands])]
 | next i s=>simp only[h i (by simp [Op.operands])]
 | panic x=>simp only[h x (by simp [Op.operands])]
 | _=>rfl
end Go.Ab
end
