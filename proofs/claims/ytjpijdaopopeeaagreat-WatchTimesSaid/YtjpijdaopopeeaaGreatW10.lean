import Derived.Test.YtjpijdaopopeeaaGreatW0
import Derived.Test.YtjpijdaopopeeaaGreatW9
import Derived.Test.YtjpijdaopopeeaaGreatW5
namespace Go.Proofs.Bench
open Go.Proofs Ab
set_option maxRecDepth 100000
set_option maxHeartbeats 4000000
set_option linter.unusedVariables false
set_option linter.unusedSimpArgs false
def fe (f:Nat→Option Int):Nat→Nat→Option Int
 | 0,_=>none
 | k+1,i=>match f i with
   | some r=>some r
   | none=>fe f k (i+1)
def er (x:Int):Option Int:=bif !decide (x=0) then some x else none
def any_ (f:Nat→Bool):Nat→Nat→Bool
 | 0,_=>false
 | k+1,i=>f i||any_ f k (i+1)
theorem fe_congr {f g:Nat→Option Int}:∀(k i:Nat),(∀j,i≤j→j<i+k→f j=g j)→fe f k i=fe g k i
 | 0,_,_=>rfl
 | k+1,i,h=>by
   rw[fe,fe,h i (Nat.le_refl _) (by omega),fe_congr k (i+1) fun j h1 h2=>h j (by omega) (by omega)]
theorem any_congr {f g:Nat→Bool}:∀(k i:Nat),(∀j,i≤j→j<i+k→f j=g j)→any_ f k i=any_ g k i
 | 0,_,_=>rfl
 | k+1,i,h=>by
   rw[any_,any_,h i (Nat.le_refl _) (by omega),any_congr k (i+1) fun j h1 h2=>h j (by omega) (by omega)]
theorem getD0 (o:Option Int):(match o with | none=>0 | some r=>r)=o.getD 0:=by cases o<;>rfl
theorem g_take {α:Type} [Inhabited α] {l:List α} {i j:Nat} (h:j<i):(l.take i).g j=l.g j:=by
 rw[List.g,List.g,List.getD_eq_getElem?_getD,List.getD_eq_getElem?_getD,List.getElem?_take_of_lt h]
theorem len_take {α:Type} {l:List α} {i:Nat} (h:i≤l.length):(l.take i).length=i:=by rw[List.length_take];omega
def letter (c:UInt8):Bool:=decide (97≤((c.toNat:Nat):Int))&&decide (((c.toNat:Nat):Int)≤122)
def digit (c:UInt8):Bool:=decide (48≤((c.toNat:Nat):Int))&&decide (((c.toNat:Nat):Int)≤57)
def dash (c:UInt8):Bool:=decide (((c.toNat:Nat):Int)=45)
theorem w_idxGauge (s:List Gauge) (P:Gauge→Bool):∀(k i:Nat),(w_indexGauge_l0 s P k i=none∧any_ (fun j=>P (s.g j)) k i=false)∨∃n:Nat,w_indexGauge_l0 s P k i=some (n:Int)∧any_ (fun j=>P (s.g j)) k i=true
 | 0,_=> .inl ⟨rfl,rfl⟩
 | k+1,i=>by
   rw[w_indexGauge_l0,any_]
   cases h:P (s.g i) with
   | true=>exact .inr ⟨i,rfl,rfl⟩
   | false=>exact w_idxGauge s P k (i+1)
theorem w_containsGauge_any (s:List Gauge) (P:Gauge→Bool):w_containsGauge s P=any_ (fun j=>P (s.g j)) s.length 0:=by
 unfold w_containsGauge Bench.w_indexGauge
 rcases w_idxGauge s P s.length 0 with ⟨h1,h2⟩ | ⟨n,h1,h2⟩
 · rw[h1,h2];rfl
 · rw[h1,h2];exact decide_eq_true (Int.natCast_nonneg n)
theorem w_containsGauge_take {s:List Gauge} {i:Nat} (h:i≤s.length) (P:Gauge→Bool):w_containsGauge (s.take i) P=any_ (fun j=>P (s.g j)) i 0:=by
 rw[w_containsGauge_any,len_take h]
 exact any_congr i 0 fun j _ hj=>by rw[g_take (by omega)]
theorem w_checkListGauge_fe (P:Nat→Int) (l:List Gauge):∀(k i:Nat),w_checkListGauge_l0 P l k i=fe (fun j=>er (P j)) k i
 | 0,_=>rfl
 | k+1,i=>by
   rw[w_checkListGauge_l0,fe,er,w_checkListGauge_fe P l k (i+1)]
   cases (!decide (P i=0))<;>rfl
theorem w_checkListGauge_eq (l:List Gauge) (most:Int) (P:Nat→Int):w_checkListGauge l most P=bif decide (most<((l.length:Nat):Int)) then 3 else (fe (fun j=>er (P j)) l.length 0).getD 0:=by
 unfold w_checkListGauge
 rw[w_checkListGauge_fe]
 cases decide (most<((l.length:Nat):Int)) with
 | true=>rfl
 | false=>exact getD0 _
theorem w_idxQuantity (s:List Quantity) (P:Quantity→Bool):∀(k i:Nat),(w_indexQuantity_l0 s P k i=none∧any_ (fun j=>P (s.g j)) k i=false)∨∃n:Nat,w_indexQuantity_l0 s P k i=some (n:Int)∧any_ (fun j=>P (s.g j)) k i=true
 | 0,_=> .inl ⟨rfl,rfl⟩
 | k+1,i=>by
   rw[w_indexQuantity_l0,any_]
   cases h:P (s.g i) with
   | true=>exact .inr ⟨i,rfl,rfl⟩
   | false=>exact w_idxQuantity s P k (i+1)
theorem w_containsQuantity_any (s:List Quantity) (P:Quantity→Bool):w_containsQuantity s P=any_ (fun j=>P (s.g j)) s.length 0:=by
 unfold w_containsQuantity Bench.w_indexQuantity
 rcases w_idxQuantity s P s.length 0 with ⟨h1,h2⟩ | ⟨n,h1,h2⟩
 · rw[h1,h2];rfl
 · rw[h1,h2];exact decide_eq_true (Int.natCast_nonneg n)
theorem w_containsQuantity_take {s:List Quantity} {i:Nat} (h:i≤s.length) (P:Quantity→Bool):w_containsQuantity (s.take i) P=any_ (fun j=>P (s.g j)) i 0:=by
 rw[w_containsQuantity_any,len_take h]
 exact any_congr i 0 fun j _ hj=>by rw[g_take (by omega)]
theorem w_checkListQuantity_fe (P:Nat→Int) (l:List Quantity):∀(k i:Nat),w_checkListQuantity_l0 P l k i=fe (fun j=>er (P j)) k i
 | 0,_=>rfl
 | k+1,i=>by
   rw[w_checkListQuantity_l0,fe,er,w_checkListQuantity_fe P l k (i+1)]
   cases (!decide (P i=0))<;>rfl
theorem w_checkListQuantity_eq (l:List Quantity) (most:Int) (P:Nat→Int):w_checkListQuantity l most P=bif decide (most<((l.length:Nat):Int)) then 3 else (fe (fun j=>er (P j)) l.length 0).getD 0:=by
 unfold w_checkListQuantity
 rw[w_checkListQuantity_fe]
 cases decide (most<((l.length:Nat):Int)) with
 | true=>rfl
 | false=>exact getD0 _
theorem w_idxMeasure (s:List Measure) (P:Measure→Bool):∀(k i:Nat),(w_indexMeasure_l0 s P k i=none∧any_ (fun j=>P (s.g j)) k i=false)∨∃n:Nat,w_indexMeasure_l0 s P k i=some (n:Int)∧any_ (fun j=>P (s.g j)) k i=true
 | 0,_=> .inl ⟨rfl,rfl⟩
 | k+1,i=>by
   rw[w_indexMeasure_l0,any_]
   cases h:P (s.g i) with
   | true=>exact .inr ⟨i,rfl,rfl⟩
   | false=>exact w_idxMeasure s P k (i+1)
theorem w_containsMeasure_any (s:List Measure) (P:Measure→Bool):w_containsMeasure s P=any_ (fun j=>P (s.g j)) s.length 0:=by
 unfold w_containsMeasure Bench.w_indexMeasure
 rcases w_idxMeasure s P s.length 0 with ⟨h1,h2⟩ | ⟨n,h1,h2⟩
 · rw[h1,h2];rfl
 · rw[h1,h2];exact decide_eq_true (Int.natCast_nonneg n)
theorem w_checkListMeasure_fe (P:Nat→Int) (l:List Measure):∀(k i:Nat),w_checkListMeasure_l0 P l k i=fe (fun j=>er (P j)) k i
 | 0,_=>rfl
 | k+1,i=>by
   rw[w_checkListMeasure_l0,fe,er,w_checkListMeasure_fe P l k (i+1)]
   cases (!decide (P i=0))<;>rfl
theorem w_checkListMeasure_eq (l:List Measure) (most:Int) (P:Nat→Int):w_checkListMeasure l most P=bif decide (most<((l.length:Nat):Int)) then 3 else (fe (fun j=>er (P j)) l.length 0).getD 0:=by
 unfold w_checkListMeasure
 rw[w_checkListMeasure_fe]
 cases decide (most<((l.length:Nat):Int)) with
 | true=>rfl
 | false=>exact getD0 _
theorem w_idxAlarm (s:List Alarm) (P:Alarm→Bool):∀(k i:Nat),(w_indexAlarm_l0 s P k i=none∧any_ (fun j=>P (s.g j)) k i=false)∨∃n:Nat,w_indexAlarm_l0 s P k i=some (n:Int)∧any_ (fun j=>P (s.g j)) k i=true
 | 0,_=> .inl ⟨rfl,rfl⟩
 | k+1,i=>by
   rw[w_indexAlarm_l0,any_]
   cases h:P (s.g i) with
   | true=>exact .inr ⟨i,rfl,rfl⟩
   | false=>exact w_idxAlarm s P k (i+1)
theorem w_containsAlarm_any (s:List Alarm) (P:Alarm→Bool):w_containsAlarm s P=any_ (fun j=>P (s.g j)) s.length 0:=by
 unfold w_containsAlarm Bench.w_indexAlarm
 rcases w_idxAlarm s P s.length 0 with ⟨h1,h2⟩ | ⟨n,h1,h2⟩
 · rw[h1,h2];rfl
 · rw[h1,h2];exact decide_eq_true (Int.natCast_nonneg n)
theorem w_containsAlarm_take {s:List Alarm} {i:Nat} (h:i≤s.length) (P:Alarm→Bool):w_containsAlarm (s.take i) P=any_ (fun j=>P (s.g j)) i 0:=by
 rw[w_containsAlarm_any,len_take h]
 exact any_congr i 0 fun j _ hj=>by rw[g_take (by omega)]
theorem w_checkListAlarm_fe (P:Nat→Int) (l:List Alarm):∀(k i:Nat),w_checkListAlarm_l0 P l k i=fe (fun j=>er (P j)) k i
 | 0,_=>rfl
 | k+1,i=>by
   rw[w_checkListAlarm_l0,fe,er,w_checkListAlarm_fe P l k (i+1)]
   cases (!decide (P i=0))<;>rfl
theorem w_checkListAlarm_eq (l:List Alarm) (most:Int) (P:Nat→Int):w_checkListAlarm l most P=bif decide (most<((l.length:Nat):Int)) then 3 else (fe (fun j=>er (P j)) l.length 0).getD 0:=by
 unfold w_checkListAlarm
 rw[w_checkListAlarm_fe]
 cases decide (most<((l.length:Nat):Int)) with
 | true=>rfl
 | false=>exact getD0 _
def all_ (f:Nat→Bool):Nat→Nat→Bool
 | 0,_=>true
 | k+1,i=>f i&&all_ f k (i+1)
theorem all_congr {f g:Nat→Bool}:∀(k i:Nat),(∀j,i≤j→j<i+k→f j=g j)→all_ f k i=all_ g k i
 | 0,_,_=>rfl
 | k+1,i,h=>by
   rw[all_,all_,h i (Nat.le_refl _) (by omega),all_congr k (i+1) fun j h1 h2=>h j (by omega) (by omega)]
theorem lt_ge (a b:Int):decide (a<b)= !decide (b≤a):=by
 by_cases h:a<b
 · rw[decide_eq_true h,decide_eq_false (by omega)];rfl
 · rw[decide_eq_false h,decide_eq_true (by omega)];rfl
theorem w_name_l0 (s:List UInt8):∀(k i:Nat),w_isName_l0 s k i=bif all_ (fun j=>letter (s.g j)||(!decide ((j:Int)=0)&&(digit (s.g j)||dash (s.g j)))) k i then none else some false
 | 0,_=>rfl
 | k+1,i=>by
   rw[w_isName_l0,all_,w_name_l0 s k (i+1),letter,digit,dash]
   generalize all_ _ k (i+1)=z
   generalize decide (97≤(((s.g i).toNat:Nat):Int))=a
   generalize decide ((((s.g i).toNat:Nat):Int)≤122)=b
   generalize decide (48≤(((s.g i).toNat:Nat):Int))=c
   generalize decide ((((s.g i).toNat:Nat):Int)≤57)=d
   generalize decide ((((s.g i).toNat:Nat):Int)=45)=e
   generalize decide ((i:Int)=0)=f
   cases a<;>cases b<;>cases c<;>cases d<;>cases e<;>cases f<;>rfl
theorem r_name_l0 (s:List UInt8):∀(k i:Nat),r_Name_l0 s k i=bif all_ (fun j=>letter (s.g j)||(digit (s.g j)||dash (s.g j))) k i then none else some false
 | 0,_=>rfl
 | k+1,i=>by
   rw[r_Name_l0,all_,r_name_l0 s k (i+1),letter,digit,dash]
   simp only[lt_ge]
   generalize all_ _ k (i+1)=z
   generalize decide (97≤(((s.g i).toNat:Nat):Int))=a
   generalize decide ((((s.g i).toNat:Nat):Int)≤122)=b
   generalize decide (48≤(((s.g i).toNat:Nat):Int))=c
   generalize decide ((((s.g i).toNat:Nat):Int)≤57)=d
   generalize decide ((((s.g i).toNat:Nat):Int)=45)=e
   cases a<;>cases b<;>cases c<;>cases d<;>cases e<;>rfl
theorem name_eq (s:List UInt8):w_isName s=r_Name s:=by
 unfold w_isName r_Name
 cases s with
 | nil=>rfl
 | cons x s=>
   rw[decide_eq_false (show ¬x::s=[] by simp),decide_eq_false (show ¬(((x::s).length:Nat):Int)=0 by simp;omega)]
   cases decide (16<(((x::s).length:Nat):Int)) with
   | true=>rfl
   | false=>
     rw[w_name_l0,r_name_l0,List.length_cons,all_,all_,lt_ge,lt_ge]
     rw[all_congr (f:=fun j=>letter ((x::s).g j)||(!decide ((j:Int)=0)&&(digit ((x::s).g j)||dash ((x::s).g j)))) (g:=fun j=>letter ((x::s).g j)||(digit ((x::s).g j)||dash ((x::s).g j))) s.length (0+1) fun j hj _=>by
      simp only[decide_eq_false (show ¬(j:Int)=0 by omega),Bool.not_false,Bool.true_and]]
     simp only[letter]
     rw[show decide (((0:Nat):Int)=0)=true from rfl]
     generalize all_ _ s.length (0+1)=z
     generalize decide (97≤((((x::s).g 0).toNat:Nat):Int))=a
     generalize decide (((((x::s).g 0).toNat:Nat):Int)≤122)=b
     generalize digit ((x::s).g 0)=c
     generalize dash ((x::s).g 0)=e
     cases a<;>cases b<;>cases c<;>cases e<;>cases z<;>rfl
theorem value_eq (n:Int):w_isValue n=r_value n:=rfl
theorem time_eq (n:Int):w_isTime n=r_timed n:=rfl
theorem upTo_eq (x m:Int):w_isUpTo x m=(!decide (x<0)&& !decide (m<x)):=by
 unfold w_isUpTo
 rw[lt_ge,lt_ge]
 cases decide (0≤x)<;>cases decide (x≤m)<;>rfl
theorem isIn_eq (a b:Int):w_isIn a b=(!decide (a<0)&& !decide (b≤a)):=by
 unfold w_isIn
 rw[lt_ge a 0,lt_ge a b]
 cases decide (0≤a)<;>cases decide (b≤a)<;>rfl
theorem exact_eq (g:Gauge):r_checkGauge g=bif w_isExact g then 0 else 1:=by
 unfold r_checkGauge w_isExact
 rw[upTo_eq,upTo_eq,time_eq]
 cases decide (g.acc<0)<;>cases decide (1000000000<g.acc)<;>cases decide (g.drift<0)<;>cases decide (1000000000<g.drift)<;>cases r_timed g.since<;>rfl
theorem r_CQ_l1 (q:Quantity) (i0:Nat):∀(k i:Nat),r_CheckQuantity_l1 i0 q k i=bif any_ (fun j=>decide ((q.gauges.g j).name=(q.gauges.g i0).name)) k i then some 6 else none
 | 0,_=>rfl
 | k+1,i=>by
   rw[r_CheckQuantity_l1,any_,r_CQ_l1 q i0 k (i+1)]
   cases decide ((q.gauges.g i).name=(q.gauges.g i0).name)<;>rfl
theorem gauge_eq (q:Quantity) {i:Nat} (hi:i<q.gauges.length):er (w_checkGauge (q.gauges.take i) (q.gauges.g i))=bif (!(r_Name ((q.gauges.g i).name))) then some 5 else (match r_CheckQuantity_l1 i q i 0 with | none=>er (r_checkGauge (q.gauges.g i)) | some r=>some r):=by
 unfold w_checkGauge
 rw[name_eq,w_containsGauge_take (by omega),r_CQ_l1,exact_eq]
 simp only[w_checkGauge1]
 cases r_Name (q.gauges.g i).name with
 | false=>rfl
 | true=>
   cases any_ (fun j=>decide ((q.gauges.g j).name=(q.gauges.g i).name)) i 0 with
   | true=>rfl
   | false=>cases w_isExact (q.gauges.g i)<;>rfl
theorem r_CQ_l0 (q:Quantity):∀(k i:Nat),r_CheckQuantity_l0 q k i=fe (fun i=>bif (!(r_Name ((q.gauges.g i).name))) then some 5 else (match r_CheckQuantity_l1 i q i 0 with | none=>er (r_checkGauge (q.gauges.g i)) | some r=>some r)) k i
 | 0,_=>rfl
 | k+1,i=>by
   rw[r_CheckQuantity_l0,fe,r_CQ_l0 q k (i+1)]
   cases (!(r_Name ((q.gauges.g i).name))) with
   | true=>rfl
   | false=>
     cases r_CheckQuantity_l1 i q i 0 with
     | some r=>rfl
     | none=>
       rw[er]
       cases (!decide (r_checkGauge (q.gauges.g i)=0))<;>rfl
theorem quantity_eq (ahead:List Quantity) (q:Quantity):w_checkQuantity ahead q=bif (!(r_Name q.name)) then 5 else bif w_containsQuantity ahead (fun y=>w_checkQuantity1 y q) then 6 else r_CheckQuantity q:=by
 unfold w_checkQuantity r_CheckQuantity
 rw[name_eq]
 cases r_Name q.name with
 | false=>rfl
 | true=>
   cases w_containsQuantity ahead (fun y=>w_checkQuantity1 y q) with
   | true=>rfl
   | false=>
     rw[value_eq,value_eq,upTo_eq,upTo_eq,upTo_eq,w_checkListGauge_eq,r_CQ_l0,fe_congr q.gauges.length 0 fun j _ hj=>gauge_eq q (by omega)]
     cases r_value q.low with
     | false=>rfl
     | true=>cases r_value q.high with
       | false=>rfl
       | true=>cases decide (q.high<q.low) with
         | true=>rfl
         | false=>
           cases decide (q.rise<0) with
           | true=>rfl
           | false=>cases decide (10000<q.rise) with
             | true=>rfl
             | false=>cases decide (q.fall<0) with
               | true=>rfl
               | false=>cases decide (10000<q.fall) with
                 | true=>rfl
                 | false=>cases decide (8<((q.gauges.length:Nat):Int)) with
                   | true=>rfl
                   | false=>cases decide (q.bad<0) with
                     | true=>rfl
                     | false=>cases decide (((q.gauges.length:Nat):Int)<q.bad) with
                       | true=>rfl
                       | false=>exact (getD0 _).symm
theorem r_C_l1 (p:Plan) (i0:Nat):∀(k i:Nat),r_Check_l1 i0 p k i=bif any_ (fun j=>decide ((p.quantities.g j).name=(p.quantities.g i0).name)) k i then some 6 else none
 | 0,_=>rfl
 | k+1,i=>by
   rw[r_Check_l1,any_,r_C_l1 p i0 k (i+1)]
   cases decide ((p.quantities.g i).name=(p.quantities.g i0).name)<;>rfl
theorem r_C_l0 (p:Plan):∀(k i:Nat),i+k≤p.quantities.length→r_Check_l0 p k i=fe (fun j=>er (w_checkQuantity (p.quantities.take j) (p.quantities.g j))) k i
 | 0,_,_=>rfl
 | k+1,i,h=>by
   rw[r_Check_l0,fe,r_C_l0 p k (i+1) (by omega),quantity_eq,w_containsQuantity_take (by omega),r_C_l1]
   simp only[w_checkQuantity1]
   cases r_Name (p.quantities.g i).name with
   | false=>rfl
   | true=>cases any_ (fun j=>decide ((p.quantities.g j).name=(p.quantities.g i).name)) i 0 with
     | true=>rfl
     | false=>
       show _=match er (r_CheckQuantity (p.quantities.g i)) with | some r=>some r | none=>_
       rw[er]
       cases (!decide (r_CheckQuantity (p.quantities.g i)=0))<;>rfl
theorem r_cM_l0 (ahead:List Measure) (m:Measure):∀(k i:Nat),r_checkMeasure_l0 ahead m k i=bif any_ (fun j=>decide ((ahead.g j).name=m.name)) k i then some 6 else none
 | 0,_=>rfl
 | k+1,i=>by
   rw[r_checkMeasure_l0,any_,r_cM_l0 ahead m k (i+1)]
   cases decide ((ahead.g i).name=m.name)<;>rfl
theorem r_cM_l1 (ahead:List Measure) (m:Measure):∀(k i:Nat),r_checkMeasure_l1 ahead m k i=bif any_ (fun j=>w_checkMeasure2 (ahead.g j) m) k i then some 10 else none
 | 0,_=>rfl
 | k+1,i=>by
   rw[r_checkMeasure_l1,any_,r_cM_l1 ahead m k (i+1),w_checkMeasure2]
   cases decide ((ahead.g i).crew=m.crew)<;>cases decide ((ahead.g i).rank=m.rank)<;>rfl
theorem measure_eq (ahead:List Measure) (m:Measure):w_checkMeasure ahead m=r_checkMeasure m ahead:=by
 unfold w_checkMeasure r_checkMeasure
 rw[name_eq,name_eq,w_containsMeasure_any,w_containsMeasure_any,r_cM_l0,r_cM_l1,time_eq,time_eq,time_eq]
 simp only[w_checkMeasure1]
 cases r_Name m.name with
 | false=>rfl
 | true=>cases r_Name m.crew with
   | false=>rfl
   | true=>cases any_ (fun j=>decide ((ahead.g j).name=m.name)) ahead.length 0 with
     | true=>rfl
     | false=>cases r_timed m.rank with
       | false=>rfl
       | true=>cases r_timed m.lag with
         | false=>rfl
         | true=>cases r_timed m.takes with
           | false=>rfl
           | true=>cases any_ (fun j=>w_checkMeasure2 (ahead.g j) m) ahead.length 0<;>rfl
theorem r_C_l2 (p:Plan):∀(k i:Nat),r_Check_l2 p k i=fe (fun j=>er (w_checkMeasure (p.measures.take j) (p.measures.g j))) k i
 | 0,_=>rfl
 | k+1,i=>by
   rw[r_Check_l2,fe,r_C_l2 p k (i+1),measure_eq,er]
   cases (!decide (r_checkMeasure (p.measures.g i) (p.measures.take i)=0))<;>rfl
theorem r_cA_l0 (p:Plan) (z:Int):∀(k i:Nat),r_checkAlarm_l0 z p k i=bif any_ (fun j=>decide ((p.alarms.g j).measure=(p.alarms.g (Int.toNat z)).measure)) k i then some 6 else none
 | 0,_=>rfl
 | k+1,i=>by
   rw[r_checkAlarm_l0,any_,r_cA_l0 p z k (i+1)]
   cases decide ((p.alarms.g i).measure=(p.alarms.g (Int.toNat z)).measure)<;>rfl
theorem alarm_eq (p:Plan) {i:Nat} (hi:i<p.alarms.length):w_Check1 (p.alarms.take i) (p.alarms.g i) p=r_checkAlarm p ((i:Nat):Int):=by
 unfold w_Check1 w_checkAlarm r_checkAlarm
 rw[w_containsAlarm_take (by omega),r_cA_l0,isIn_eq,isIn_eq,value_eq,value_eq,show Int.toNat ((i:Nat):Int)=i from rfl]
 simp only[w_checkAlarm1]
 cases decide ((p.alarms.g i).quantity<0) with
 | true=>rfl
 | false=>cases decide (((p.quantities.length:Nat):Int)≤(p.alarms.g i).quantity) with
   | true=>rfl
   | false=>cases decide ((p.alarms.g i).measure<0) with
     | true=>rfl
     | false=>cases decide (((p.measures.length:Nat):Int)≤(p.alarms.g i).measure) with
       | true=>rfl
       | false=>cases r_value (p.alarms.g i).level with
         | false=>rfl
         | true=>cases r_value (p.alarms.g i).limit with
           | false=>rfl
           | true=>cases any_ (fun j=>decide ((p.alarms.g j).measure=(p.alarms.g i).measure)) i 0<;>rfl
theorem r_C_l3 (p:Plan):∀(k i:Nat),i+k≤p.alarms.length→r_Check_l3 p k i=fe (fun j=>er (w_Check1 (p.alarms.take j) (p.alarms.g j) p)) k i
 | 0,_,_=>rfl
 | k+1,i,h=>by
   rw[r_Check_l3,fe,r_C_l3 p k (i+1) (by omega),alarm_eq p (show i<p.alarms.length by omega),er]
   cases (!decide (r_checkAlarm p ((i:Nat):Int)=0))<;>rfl
theorem fe_nz (f:Nat→Int):∀(k i:Nat),fe (fun j=>er (f j)) k i≠some 0
 | 0,_=>by simp [fe]
 | k+1,i=>by
   rw[fe,er]
   by_cases h:f i=0
   · rw[decide_eq_true h];exact fe_nz f k (i+1)
   · rw[decide_eq_false h];intro e;exact h (Option.some.inj e)
def nxt (o:Option Int) (rest:Int):Int:=match o with
 | none=>rest
 | some r=>r
theorem part_eq (n:Int) (o:Option Int) (rest:Int) (ho:o≠some 0):(bif (!decide ((bif decide (16<n) then 3 else o.getD 0)=0)) then (bif decide (16<n) then 3 else o.getD 0) else rest)=bif decide (16<n) then 3 else nxt o rest:=by
 cases decide (16<n) with
 | true=>rfl
 | false=>
   cases o with
   | none=>rfl
   | some r=>
     show (bif (!decide (r=0)) then r else rest)=r
     rw[decide_eq_false (fun e=>ho (by rw[e]))];rfl
theorem Check_eq (p:Plan):w_Check p=r_Check p:=by
 unfold w_Check r_Check
 rw[w_checkListQuantity_eq,w_checkListMeasure_eq,w_checkListAlarm_eq,part_eq _ _ _ (fe_nz _ _ _),part_eq _ _ _ (fe_nz _ _ _),r_C_l0 p _ 0 (by omega),r_C_l2,r_C_l3 p _ 0 (by omega)]
 cases decide (16<((p.quantities.length:Nat):Int)) with
 | true=>rfl
 | false=>cases fe (fun j=>er (w_checkQuantity (p.quantities.take j) (p.quantities.g j))) p.quantities.length 0 with
   | some r=>rfl
   | none=>cases decide (16<((p.measures.length:Nat):Int)) with
     | true=>rfl
     | false=>cases fe (fun j=>er (w_checkMeasure (p.measures.take j) (p.measures.g j))) p.measures.length 0 with
       | some r=>rfl
       | none=>cases decide (16<((p.alarms.length:Nat):Int)) with
         | true=>rfl
         | false=>exact (getD0 _).symm
theorem fe_none {f:Nat→Int}:∀{k i:Nat},fe (fun j=>er (f j)) k i=none→∀j,i≤j→j<i+k→f j=0
 | 0,i,_,j,h1,h2=>by omega
 | k+1,i,h,j,h1,h2=>by
   rw[fe,er] at h
   by_cases q:f i=0
   · by_cases e:j=i
     · rw[e];exact q
     · rw[decide_eq_true q] at h
       exact fe_none (f:=f) h j (by omega) (by omega)
   · rw[decide_eq_false q] at h;cases h
theorem list_ok {n:Nat} {f:Nat→Int} (h:(bif decide (16<(n:Int)) then 3 else (fe (fun j=>er (f j)) n 0).getD 0)=0):n≤16∧∀j,j<n→f j=0:=by
 by_cases q:16<(n:Int)
 · rw[decide_eq_true q] at h;cases h
 · rw[decide_eq_false q] at h
   refine ⟨by omega,fun j hj=>?_⟩
   cases e:fe (fun j=>er (f j)) n 0 with
   | none=>exact fe_none e j (by omega) (by omega)
   | some r=>
     rw[e] at h
     exact absurd (by rw[e];exact congrArg some h) (fe_nz f n 0)
theorem bif3 {a b c:Int} (h:(bif (!decide (a=0)) then a else (bif (!decide (b=0)) then b else c))=0):a=0∧b=0∧c=0:=by
 by_cases q:a=0
 · rw[decide_eq_true q] at h
   by_cases r:b=0
   · rw[decide_eq_true r] at h;exact ⟨q,r,h⟩
   · rw[decide_eq_false r] at h;exact absurd h r
 · rw[decide_eq_false q] at h;exact absurd h q
structure Fine (p:Plan):Prop where
 lens:p.quantities.length≤16∧p.measures.length≤16∧p.alarms.length≤16
 q:∀j,j<p.quantities.length→w_checkQuantity (p.quantities.take j) (p.quantities.g j)=0
 m:∀j,j<p.measures.length→w_checkMeasure (p.measures.take j) (p.measures.g j)=0
 a:∀j,j<p.alarms.length→w_checkAlarm p (p.alarms.take j) (p.alarms.g j)=0
theorem Check_ok {p:Plan} (h:w_Check p=0):Fine p:=by
 unfold w_Check at h
 obtain ⟨h1,h2,h3⟩:=bif3 h
 rw[w_checkListQuantity_eq] at h1
 rw[w_checkListMeasure_eq] at h2
 rw[w_checkListAlarm_eq] at h3
 obtain ⟨l1,f1⟩:=list_ok h1
 obtain ⟨l2,f2⟩:=list_ok h2
 obtain ⟨l3,f3⟩:=list_ok h3
 exact ⟨⟨l1,l2,l3⟩,f1,f2,f3⟩
theorem bifz {c:Bool} {a b:Int} (ha:a≠0) (h:(bif c then a else b)=0):c=false∧b=0:=by
 cases c with
 | true=>exact absurd h ha
 | false=>exact ⟨rfl,h⟩
theorem notf {b:Bool} (h:(!b)=false):b=true:=by cases b;cases h;rfl
theorem timed_of {x:Int} (h:w_isTime x=true):0≤x∧x≤100000:=by
 unfold w_isTime w_isUpTo at h
 by_cases q:0≤x
 · rw[decide_eq_true q] at h;exact ⟨q,of_decide_eq_true h⟩
 · rw[decide_eq_false q] at h;cases h
theorem Fine.measure {p:Plan} (f:Fine p) {j:Nat} (hj:j<p.measures.length):0≤(p.measures.g j).lag∧(p.measures.g j).lag≤100000∧0≤(p.measures.g j).takes∧(p.measures.g j).takes≤100000:=by
 have h:=f.m j hj
 unfold w_checkMeasure at h
 obtain ⟨_,h⟩:=bifz (by decide) h
 obtain ⟨_,h⟩:=bifz (by decide) h
 obtain ⟨_,h⟩:=bifz (by decide) h
 obtain ⟨_,h⟩:=bifz (by decide) h
 obtain ⟨h1,h⟩:=bifz (by decide) h
 obtain ⟨h2,h⟩:=bifz (by decide) h
 have:=timed_of (notf h1)
 have:=timed_of (notf h2)
 omega
theorem Fine.alarm {p:Plan} (f:Fine p) {j:Nat} (hj:j<p.alarms.length):(0≤(p.alarms.g j).quantity∧(p.alarms.g j).quantity<(p.quantities.length:Int))∧0≤(p.alarms.g j).measure∧(p.alarms.g j).measure<(p.measures.length:Int):=by
 have h:=f.a j hj
 unfold w_checkAlarm at h
 obtain ⟨h1,h⟩:=bifz (by decide) h
 obtain ⟨h2,h⟩:=bifz (by decide) h
 exact ⟨w_isIn_t (notf h1),w_isIn_t (notf h2)⟩
theorem wr {x:Int} (h1: -9223372036854775808≤x) (h2:x<9223372036854775808):IntKind.i64.wrap x=x:=wrap_i64 h1 h2
theorem resp_l0 {p:Plan} (f:Fine p) (n:Int):∀(k i:Nat) (a b c:Int),i+k=p.measures.length→0≤a→a≤i*100000→0≤b→b≤100000→0≤c→c≤200000→
 ∃a' b',w_responseOf_l0 p n k i a b=(a',b')∧r_response_l0 p n k i b (c+a)=(b',c+a')∧0≤a'∧a'≤1600000∧0≤b'∧b'≤100000:=by
 intro k
 induction k with
 | zero=>
   intro i a b c hk a0 a1 b0 b1 c0 c1
   exact ⟨a,b,rfl,rfl,a0,by have:=f.lens;omega,b0,b1⟩
 | succ k ih=>
   intro i a b c hk a0 a1 b0 b1 c0 c1
   obtain ⟨_,_,t0,t1⟩:=f.measure (show i<p.measures.length by omega)
   have hl:=f.lens
   rw[w_responseOf_l0,r_response_l0]
   cases hc:decide ((p.measures.g i).crew=(p.measures.g (Int.toNat n)).crew) with
   | false=>exact ih (i+1) a b c (by omega) a0 (by omega) b0 b1 c0 c1
   | true=>
     by_cases h1:(p.measures.g i).rank<(p.measures.g (Int.toNat n)).rank
     · rw[decide_eq_true h1,decide_eq_false (show ¬(p.measures.g (Int.toNat n)).rank<(p.measures.g i).rank by omega)]
       show ∃a' b',w_responseOf_l0 p n k (i+1) (IntKind.i64.wrap (a+(p.measures.g i).takes)) b=_∧r_response_l0 p n k (i+1) b (IntKind.i64.wrap (c+a+(p.measures.g i).takes))=_∧_
       rw[wr (by omega) (by omega),wr (by omega) (by omega),Int.add_assoc]
       exact ih (i+1) _ b c (by omega) (by omega) (by omega) b0 b1 c0 c1
     · rw[decide_eq_false h1]
       by_cases h2:(p.measures.g (Int.toNat n)).rank<(p.measures.g i).rank
       · rw[decide_eq_true h2]
         refine ih (i+1) a _ c (by omega) a0 (by omega) ?_ ?_ c0 c1<;>split<;>omega
       · rw[decide_eq_false h2]
         exact ih (i+1) a b c (by omega) a0 (by omega) b0 b1 c0 c1
theorem resp_eq {p:Plan} (f:Fine p) {n:Int} (h0:0≤n) (h1:n<(p.measures.length:Int)):w_responseOf p n=r_response p n:=by
 obtain ⟨g0,g1,t0,t1⟩:=f.measure (show Int.toNat n<p.measures.length by omega)
 unfold w_responseOf r_response
 obtain ⟨a,b,e1,e2,ha,hb,hc,hd⟩:=resp_l0 f n p.measures.length 0 0 0 ((p.measures.g (Int.toNat n)).lag+(p.measures.g (Int.toNat n)).takes) (by omega) (by omega) (by omega) (by omega) (by omega) (by omega) (by omega)
 rw[Int.add_zero] at e2
 rw[wr (x:=(p.measures.g (Int.toNat n)).lag+(p.measures.g (Int.toNat n)).takes) (by omega) (by omega),e1,e2]
 show IntKind.i64.wrap (IntKind.i64.wrap (IntKind.i64.wrap ((p.measures.g (Int.toNat n)).lag+b)+a)+(p.measures.g (Int.toNat n)).takes)=IntKind.i64.wrap ((p.measures.g (Int.toNat n)).lag+(p.measures.g (Int.toNat n)).takes+a+b)
 rw[wr (x:=(p.measures.g (Int.toNat n)).lag+b) (by omega) (by omega),wr (x:=(p.measures.g (Int.toNat n)).lag+b+a) (by omega) (by omega)]
 congr 1
 omega
theorem Response_eq (p:Plan) (n:Int):w_Response p n=r_Response p n:=by
 unfold w_Response r_Response
 rw[←Check_eq,isIn_eq]
 by_cases h:w_Check p=0
 · rw[decide_eq_true h]
   by_cases h1:n<0
   · rw[decide_eq_true h1];rfl
   · rw[decide_eq_false h1]
     by_cases h2:(p.measures.length:Int)≤n
     · rw[decide_eq_true h2];rfl
     · rw[decide_eq_false h2]
       show (w_responseOf p n,(0:Int))=(r_response p n,0)
       rw[resp_eq (Check_ok h) (by omega) (by omega)]
 · rw[decide_eq_false h];rfl
noncomputable def r_Late_body:Code:=(Tryz.f9.body).getD .skip
theorem r_Late_B:Tryz.f9.body=some r_Late_body:=by kernel_rfl
noncomputable def r_Late_lp0:Code:=(loopsIn r_Late_body).getD 0 .skip
def r_Late_l0 (p:Plan):Nat→Nat→List Int→List Int
 | 0,_,v0_5=>v0_5
 | kq0+1,i0,v0_5=>(bif (decide (((p.alarms.g i0).level)<((p.quantities.g (Int.toNat ((p.alarms.g i0).quantity))).high))) then r_Late_l0 p kq0 (i0+1) (v0_5++[((i0:Nat):Int)]) else (bif (decide (((p.alarms.g i0).limit)<(IntKind.i64.wrap (((p.alarms.g i0).level)+(IntKind.i64.wrap (((p.quantities.g (Int.toNat ((p.alarms.g i0).quantity))).rise)*(IntKind.i64.wrap ((r_response p ((p.alarms.g i0).measure))+1)))))))) then r_Late_l0 p kq0 (i0+1) (v0_5++[((i0:Nat):Int)]) else r_Late_l0 p kq0 (i0+1) v0_5))
theorem r_Late_l0_t {d:Nat} {h:Heap} (p:Plan) (b0_0:Nat) (H0_0:RowsAt h p.quantitiesV p.quantities) (H0_1:RowsAt h p.measuresV p.measures) (H0_2:RowsAt h p.alarmsV p.alarms) (O0_0:RowT.ok h p) (E0_0:Fine p) (y_h:Tidy h) (G0_0:h.get b0_0=some (AObj.cells [p.quantitiesV,p.measuresV,p.alarmsV] 26 false)):∀(k_ i_:Nat) (v0_5:List Int) (z0:AV) (_:i_+k_=p.alarms.length) (x:Nat→AV) (hh:Heap) (y_hh:Tidy hh) (a_hh:Has h hh) (n_hh:h.nx≤hh.nx) (oz0:OwnC 3 h hh z0 (zs v0_5)) (lz0:v0_5.length≤i_),OwnLoop (cal (d+4)) r_Late_lp0 ⟨((x 0)::(AV.ptr b0_0 0)::rx x 2 3 (z0::(AV.int .i64 ((i_:Nat):Int))::rx x 7 52 [])),hh,[],.no⟩ (.exit 0) h 3 (fun r z y=>((y 0)::(AV.ptr b0_0 0)::rx y 2 3 (z::rx y 6 53 []))) (fun r=>zs r) p.alarms.length (r_Late_l0 p k_ i_ v0_5)
 | 0,i0,v0_5,z0,hik,x,hh,y_hh,a_hh,n_hh,oz0,lz0=>by
   have s_H0_0:=H0_0.small
   have s_H0_1:=H0_1.small
   have s_H0_2:=H0_2.small
   have T0_0:=y_h _ _ G0_0
   have ln1:lenK (some (.slice 59)) (some p.alarmsV)=some (AV.int .i64 ((p.alarms.length:Nat):Int)):=(H0_2.has a_hh).len
   have q2:(decide (((i0:Nat):Int)<((p.alarms.length:Nat):Int)))=false:=d!
   have ev:=pk (d+4) r_Late_lp0 ((x 0)::(AV.ptr b0_0 0)::rx x 2 3 (z0::(AV.int .i64 ((i0:Nat):Int))::rx x 7 52 [])) hh (.exit 0) hh (CN 2<|MM (lown 24 2 p.alarmsV (a_hh _ _ G0_0) k!)<|VV ln1<|VV (ilss 3 false false .i64 ((i0:Nat):Int) ((p.alarms.length:Nat):Int))<|BB q2<|ZZ) k!
   exact OwnLoop.out v0_5 z0 rfl ev ⟨y_hh,a_hh,by omega⟩ oz0 (by show (zs _).length≤_;rw[zs_len];omega) k!
 | kq0+1,i0,v0_5,z0,hik,x,hh,y_hh,a_hh,n_hh,oz0,lz0=>by
   have s_H0_0:=H0_0.small
   have s_H0_1:=H0_1.small
   have s_H0_2:=H0_2.small
   have T0_0:=y_h _ _ G0_0
   have fl_:=E0_0.lens
   obtain ⟨⟨fa1_,fa2_⟩,fa3_,fa4_⟩:=E0_0.alarm (j:=i0) o!
   rcases Bool.eq_false_or_eq_true (decide (((p.alarms.g i0).level)<((p.quantities.g (Int.toNat ((p.alarms.g i0).quantity))).high))) with f1 | f1
   · have n_f1:=of_decide_eq_true f1
     have ln1:lenK (some (.slice 59)) (some p.alarmsV)=some (AV.int .i64 ((p.alarms.length:Nat):Int)):=(H0_2.has a_hh).len
     have q2:(decide (((i0:Nat):Int)<((p.alarms.length:Nat):Int)))=true:=d!
     obtain ⟨p4,q5,ix3_⟩:=(H0_2.has a_hh).elem (i:=i0) o!
     have ix3:idxK env (some (.slice 59)) (some p.alarmsV) (some (AV.int .i64 ((i0:Nat):Int)))=some (AV.ptr p4 q5):=ix3_
     have ld6:loadA env hh 59 (AV.ptr p4 q5)=some (AV.agg [(AV.int .i64 ((p.alarms.g i0).quantity)),(AV.int .i64 ((p.alarms.g i0).level)),(AV.int .i64 ((p.alarms.g i0).limit)),(AV.int .i64 ((p.alarms.g i0).measure))]):=(H0_2.has a_hh).load o! ix3_
     obtain ⟨h7,n_h7,y_h7,z_h7,g_h7,b_h7⟩:=nwB y_hh (AObj.cells [(AV.int .i64 0),(AV.int .i64 0),(AV.int .i64 0),(AV.int .i64 0)] 59 false)
     have a_h7:Has hh h7:=b_h7
     obtain ⟨h8,s_h8,y_h8,z_h8,g_h8,kk_h8⟩:=stwB (t:=59) (n:=4) (i:=hh.nx) (L:=[(AV.int .i64 ((p.alarms.g i0).quantity)),(AV.int .i64 ((p.alarms.g i0).level)),(AV.int .i64 ((p.alarms.g i0).limit)),(AV.int .i64 ((p.alarms.g i0).measure))]) y_h7 g_h7 k! rfl rfl (by simp only[AV.cells,List.all_cons,List.all_nil,Bool.and_true,Bool.and_self,sc_int,sc_bool,sc_str,sc_ptr,sc_slice,sc_ns,sc_np,sc_nm,sc_nf,sc_ni,sc_map])
     have a_h8:Has hh h8:=Has.of_kept a_h7 kk_h8 y_hh o!
     obtain ⟨p10,q11,ix9_⟩:=(H0_0.has a_hh).elem (i:=(Int.toNat ((p.alarms.g i0).quantity))) o!
     have ix9:idxK env (some (.slice 41)) (some p.quantitiesV) (some (AV.int .i64 ((p.alarms.g i0).quantity)))=some (AV.ptr p10 q11):=by rw[show (((p.alarms.g i0).quantity):Int)=(((Int.toNat ((p.alarms.g i0).quantity)):Nat):Int) by omega];exact ix9_
     have ld12:loadA env h8 41 (AV.ptr p10 q11)=some (AV.agg [(AV.str ((p.quantities.g (Int.toNat ((p.alarms.g i0).quantity))).name)),(AV.int .i64 ((p.quantities.g (Int.toNat ((p.alarms.g i0).quantity))).low)),(AV.int .i64 ((p.quantities.g (Int.toNat ((p.alarms.g i0).quantity))).high)),(AV.int .i64 ((p.quantities.g (Int.toNat ((p.alarms.g i0).quantity))).rise)),(AV.int .i64 ((p.quantities.g (Int.toNat ((p.alarms.g i0).quantity))).fall)),(AV.int .i64 ((p.quantities.g (Int.toNat ((p.alarms.g i0).quantity))).bad)),((p.quantities.g (Int.toNat ((p.alarms.g i0).quantity))).gaugesV)]):=((H0_0.has a_hh).has a_h8).load o! ix9_
     obtain ⟨h13,n_h13,y_h13,z_h13,g_h13,b_h13⟩:=nwB y_h8 (AObj.cells [(AV.str []),(AV.int .i64 0),(AV.int .i64 0),(AV.int .i64 0),(AV.int .i64 0),(AV.int .i64 0),AV.nilslice] 41 false)
     have a_h13:Has hh h13:=a_h8.trans b_h13
     have sc15:AV.scalar ((p.quantities.g (Int.toNat ((p.alarms.g i0).quantity))).gaugesV)=true:=(((H0_0.has a_hh).ok (i:=(Int.toNat ((p.alarms.g i0).quantity))) o!).2).scalar
     obtain ⟨h14,s_h14,y_h14,z_h14,g_h14,kk_h14⟩:=stwB (t:=41) (n:=7) (i:=h8.nx) (L:=[(AV.str ((p.quantities.g (Int.toNat ((p.alarms.g i0).quantity))).name)),(AV.int .i64 ((p.quantities.g (Int.toNat ((p.alarms.g i0).quantity))).low)),(AV.int .i64 ((p.quantities.g (Int.toNat ((p.alarms.g i0).quantity))).high)),(AV.int .i64 ((p.quantities.g (Int.toNat ((p.alarms.g i0).quantity))).rise)),(AV.int .i64 ((p.quantities.g (Int.toNat ((p.alarms.g i0).quantity))).fall)),(AV.int .i64 ((p.quantities.g (Int.toNat ((p.alarms.g i0).quantity))).bad)),((p.quantities.g (Int.toNat ((p.alarms.g i0).quantity))).gaugesV)]) y_h13 g_h13 k! rfl rfl (by simp only[AV.cells,List.all_cons,List.all_nil,Bool.and_true,Bool.and_self,sc_int,sc_bool,sc_str,sc_ptr,sc_slice,sc_ns,sc_np,sc_nm,sc_nf,sc_ni,sc_map,sc15])
     have a_h14:Has hh h14:=Has.of_kept a_h13 kk_h14 y_hh o!
     obtain ⟨h17,n_h17,y_h17,z_h17,g_h17,b_h17⟩:=nwB y_h14 (AObj.cells [(AV.int .i64 ((i0:Nat):Int))] 3 false)
     have a_h17:Has hh h17:=a_h14.trans b_h17
     obtain ⟨z19,h18,ap_h18,y_h18,m_h18,A_h18,oz20⟩:=OwnC.app1 (h0:=h) (tys:= #[32,32]) (v:=((i0:Nat):Int)) (L:=v0_5) y_h17 y_h (a_hh.trans a_h17) o! (oz0.has a_h17) g_h17 (by first | omega | (simp;omega)) rfl rfl k! k! k! (bytes:=8) k! (z0:=AV.int .i64 0) k! rfl (by decide)
     have u21:=nadd 3 false true i0 1 o!
     have ev:=pk (d+4) r_Late_lp0 ((x 0)::(AV.ptr b0_0 0)::rx x 2 3 (z0::(AV.int .i64 ((i0:Nat):Int))::rx x 7 52 [])) hh .normal h18 (CN 2<|MM (lown 24 2 p.alarmsV (a_hh _ _ G0_0) k!)<|VV ln1<|VV (ilss 3 false false .i64 ((i0:Nat):Int) ((p.alarms.length:Nat):Int))<|BB q2<|CC<|MM (lown 24 2 p.alarmsV (a_hh _ _ G0_0) k!)<|CC<|VV ix3<|MM ld6<|NN n_h7 (fun i=>(AV.ptr i 0))<|SS s_h8<|CC<|MM (lown 22 0 p.quantitiesV (kk_h8 _ _ o! (b_h7 _ _ (a_hh _ _ G0_0))) k!)<|CC<|MM (lown 3 0 (AV.int .i64 ((p.alarms.g i0).quantity)) g_h8 k!)<|VV ix9<|MM ld12<|NN n_h13 (fun i=>(AV.ptr i 0))<|SS s_h14<|CN 2<|MM (lown 3 2 (AV.int .i64 ((p.quantities.g (Int.toNat ((p.alarms.g i0).quantity))).high)) g_h14 k!)<|CC<|MM (lown 3 1 (AV.int .i64 ((p.alarms.g i0).level)) (kk_h14 _ _ o! (b_h13 _ _ g_h8)) k!)<|VV (igtr 3 false false .i64 ((p.quantities.g (Int.toNat ((p.alarms.g i0).quantity))).high) ((p.alarms.g i0).level))<|CC<|BB f1<|BB f1<|BB f1<|BB f1<|BB f1<|BB f1<|BB f1<|BB f1<|BB f1<|BB f1<|BB f1<|BB f1<|BB f1<|BB f1<|VV (pick_t (a:=some (AV.bool true)) (b:=some AV.undef) f1)<|HH (lown 3 2 (AV.int .i64 ((p.quantities.g (Int.toNat ((p.alarms.g i0).quantity))).high)) g_h14 k!)<|HH (show AV.same 20 (AV.int .i64 ((p.quantities.g (Int.toNat ((p.alarms.g i0).quantity))).high)) (AV.int .i64 ((p.quantities.g (Int.toNat ((p.alarms.g i0).quantity))).high))=true from same_int 19 _ _)<|HH (lown 3 1 (AV.int .i64 ((p.alarms.g i0).level)) (kk_h14 _ _ o! (b_h13 _ _ g_h8)) k!)<|HH (show AV.same 20 (AV.int .i64 ((p.alarms.g i0).level)) (AV.int .i64 ((p.alarms.g i0).level))=true from same_int 19 _ _)<|TT<|CN 2<|NN n_h17 (fun i=>(AV.slice i 0 1 1 false))<|PP (show appendA env h17 #[32,32] z0 (AV.slice h14.nx 0 1 1 false)=some (z19,h18) from ap_h18)<|CN 2<|VV u21<|CC<|ZZ) k!
     exact OwnLoop.round (by simp only[r_Late_l0,f1,cond_true,cond_false]) ev (fun x=>((x 0)::(AV.ptr b0_0 0)::rx x 2 3 (z19::(AV.int .i64 (((i0+1):Nat):Int))::rx x 7 52 []))) k! (fun x=>r_Late_l0_t p b0_0 H0_0 H0_1 H0_2 O0_0 E0_0 y_h G0_0 kq0 (i0+1) (v0_5++[((i0:Nat):Int)]) z19 o! x h18 y_h18 A_h18 o! oz20 (by first | omega | (simp;omega)))
   · have n_f1:=of_decide_eq_false f1
     rcases Bool.eq_false_or_eq_true (decide (((p.alarms.g i0).limit)<(IntKind.i64.wrap (((p.alarms.g i0).level)+(IntKind.i64.wrap (((p.quantities.g (Int.toNat ((p.alarms.g i0).quantity))).rise)*(IntKind.i64.wrap ((r_response p ((p.alarms.g i0).measure))+1)))))))) with f2 | f2
     · have n_f2:=of_decide_eq_true f2
       have ln1:lenK (some (.slice 59)) (some p.alarmsV)=some (AV.int .i64 ((p.alarms.length:Nat):Int)):=(H0_2.has a_hh).len
       have q2:(decide (((i0:Nat):Int)<((p.alarms.length:Nat):Int)))=true:=d!
       obtain ⟨p4,q5,ix3_⟩:=(H0_2.has a_hh).elem (i:=i0) o!
       have ix3:idxK env (some (.slice 59)) (some p.alarmsV) (some (AV.int .i64 ((i0:Nat):Int)))=some (AV.ptr p4 q5):=ix3_
       have ld6:loadA env hh 59 (AV.ptr p4 q5)=some (AV.agg [(AV.int .i64 ((p.alarms.g i0).quantity)),(AV.int .i64 ((p.alarms.g i0).level)),(AV.int .i64 ((p.alarms.g i0).limit)),(AV.int .i64 ((p.alarms.g i0).measure))]):=(H0_2.has a_hh).load o! ix3_
       obtain ⟨h7,n_h7,y_h7,z_h7,g_h7,b_h7⟩:=nwB y_hh (AObj.cells [(AV.int .i64 0),(AV.int .i64 0),(AV.int .i64 0),(AV.int .i64 0)] 59 false)
       have a_h7:Has hh h7:=b_h7
       obtain ⟨h8,s_h8,y_h8,z_h8,g_h8,kk_h8⟩:=stwB (t:=59) (n:=4) (i:=hh.nx) (L:=[(AV.int .i64 ((p.alarms.g i0).quantity)),(AV.int .i64 ((p.alarms.g i0).level)),(AV.int .i64 ((p.alarms.g i0).limit)),(AV.int .i64 ((p.alarms.g i0).measure))]) y_h7 g_h7 k! rfl rfl (by simp only[AV.cells,List.all_cons,List.all_nil,Bool.and_true,Bool.and_self,sc_int,sc_bool,sc_str,sc_ptr,sc_slice,sc_ns,sc_np,sc_nm,sc_nf,sc_ni,sc_map])
       have a_h8:Has hh h8:=Has.of_kept a_h7 kk_h8 y_hh o!
       obtain ⟨p10,q11,ix9_⟩:=(H0_0.has a_hh).elem (i:=(Int.toNat ((p.alarms.g i0).quantity))) o!
       have ix9:idxK env (some (.slice 41)) (some p.quantitiesV) (some (AV.int .i64 ((p.alarms.g i0).quantity)))=some (AV.ptr p10 q11):=by rw[show (((p.alarms.g i0).quantity):Int)=(((Int.toNat ((p.alarms.g i0).quantity)):Nat):Int) by omega];exact ix9_
       have ld12:loadA env h8 41 (AV.ptr p10 q11)=some (AV.agg [(AV.str ((p.quantities.g (Int.toNat ((p.alarms.g i0).quantity))).name)),(AV.int .i64 ((p.quantities.g (Int.toNat ((p.alarms.g i0).quantity))).low)),(AV.int .i64 ((p.quantities.g (Int.toNat ((p.alarms.g i0).quantity))).high)),(AV.int .i64 ((p.quantities.g (Int.toNat ((p.alarms.g i0).quantity))).rise)),(AV.int .i64 ((p.quantities.g (Int.toNat ((p.alarms.g i0).quantity))).fall)),(AV.int .i64 ((p.quantities.g (Int.toNat ((p.alarms.g i0).quantity))).bad)),((p.quantities.g (Int.toNat ((p.alarms.g i0).quantity))).gaugesV)]):=((H0_0.has a_hh).has a_h8).load o! ix9_
       obtain ⟨h13,n_h13,y_h13,z_h13,g_h13,b_h13⟩:=nwB y_h8 (AObj.cells [(AV.str []),(AV.int .i64 0),(AV.int .i64 0),(AV.int .i64 0),(AV.int .i64 0),(AV.int .i64 0),AV.nilslice] 41 false)
       have a_h13:Has hh h13:=a_h8.trans b_h13
       have sc15:AV.scalar ((p.quantities.g (Int.toNat ((p.alarms.g i0).quantity))).gaugesV)=true:=(((H0_0.has a_hh).ok (i:=(Int.toNat ((p.alarms.g i0).quantity))) o!).2).scalar
       obtain ⟨h14,s_h14,y_h14,z_h14,g_h14,kk_h14⟩:=stwB (t:=41) (n:=7) (i:=h8.nx) (L:=[(AV.str ((p.quantities.g (Int.toNat ((p.alarms.g i0).quantity))).name)),(AV.int .i64 ((p.quantities.g (Int.toNat ((p.alarms.g i0).quantity))).low)),(AV.int .i64 ((p.quantities.g (Int.toNat ((p.alarms.g i0).quantity))).high)),(AV.int .i64 ((p.quantities.g (Int.toNat ((p.alarms.g i0).quantity))).rise)),(AV.int .i64 ((p.quantities.g (Int.toNat ((p.alarms.g i0).quantity))).fall)),(AV.int .i64 ((p.quantities.g (Int.toNat ((p.alarms.g i0).quantity))).bad)),((p.quantities.g (Int.toNat ((p.alarms.g i0).quantity))).gaugesV)]) y_h13 g_h13 k! rfl rfl (by simp only[AV.cells,List.all_cons,List.all_nil,Bool.and_true,Bool.and_self,sc_int,sc_bool,sc_str,sc_ptr,sc_slice,sc_ns,sc_np,sc_nm,sc_nf,sc_ni,sc_map,sc15])
       have a_h14:Has hh h14:=Has.of_kept a_h13 kk_h14 y_hh o!
       have k17:=r_response_c (d:=d+3) p ((p.alarms.g i0).measure) (RowT.mono a_h14 (RowT.mono a_hh O0_0)) o! o! y_h14
       have c18:AV.same 20 (AV.agg [p.quantitiesV,p.measuresV,p.alarmsV]) (AV.agg [p.quantitiesV,p.measuresV,p.alarmsV])=true:=same_agg 18 (sc_ (H0_0.has a_hh).same (sc_ (H0_1.has a_hh).same (sc_ (H0_2.has a_hh).same sn_)))
       obtain ⟨h20,n_h20,y_h20,z_h20,g_h20,b_h20⟩:=nwB y_h14 (AObj.cells [(AV.int .i64 ((i0:Nat):Int))] 3 false)
       have a_h20:Has hh h20:=a_h14.trans b_h20
       obtain ⟨z22,h21,ap_h21,y_h21,m_h21,A_h21,oz23⟩:=OwnC.app1 (h0:=h) (tys:= #[32,32]) (v:=((i0:Nat):Int)) (L:=v0_5) y_h20 y_h (a_hh.trans a_h20) o! (oz0.has a_h20) g_h20 (by first | omega | (simp;omega)) rfl rfl k! k! k! (bytes:=8) k! (z0:=AV.int .i64 0) k! rfl (by decide)
       have u24:=nadd 3 false true i0 1 o!
       have ev:=pk (d+4) r_Late_lp0 ((x 0)::(AV.ptr b0_0 0)::rx x 2 3 (z0::(AV.int .i64 ((i0:Nat):Int))::rx x 7 52 [])) hh .normal h21 (CN 2<|MM (lown 24 2 p.alarmsV (a_hh _ _ G0_0) k!)<|VV ln1<|VV (ilss 3 false false .i64 ((i0:Nat):Int) ((p.alarms.length:Nat):Int))<|BB q2<|CC<|MM (lown 24 2 p.alarmsV (a_hh _ _ G0_0) k!)<|CC<|VV ix3<|MM ld6<|NN n_h7 (fun i=>(AV.ptr i 0))<|SS s_h8<|CC<|MM (lown 22 0 p.quantitiesV (kk_h8 _ _ o! (b_h7 _ _ (a_hh _ _ G0_0))) k!)<|CC<|MM (lown 3 0 (AV.int .i64 ((p.alarms.g i0).quantity)) g_h8 k!)<|VV ix9<|MM ld12<|NN n_h13 (fun i=>(AV.ptr i 0))<|SS s_h14<|CN 2<|MM (lown 3 2 (AV.int .i64 ((p.quantities.g (Int.toNat ((p.alarms.g i0).quantity))).high)) g_h14 k!)<|CC<|MM (lown 3 1 (AV.int .i64 ((p.alarms.g i0).level)) (kk_h14 _ _ o! (b_h13 _ _ g_h8)) k!)<|VV (igtr 3 false false .i64 ((p.quantities.g (Int.toNat ((p.alarms.g i0).quantity))).high) ((p.alarms.g i0).level))<|CC<|BB f1<|CC<|BB f1<|MM (lown 3 1 (AV.int .i64 ((p.alarms.g i0).level)) (kk_h14 _ _ o! (b_h13 _ _ g_h8)) k!)<|BB f1<|CC<|BB f1<|MM (lown 3 3 (AV.int .i64 ((p.quantities.g (Int.toNat ((p.alarms.g i0).quantity))).rise)) g_h14 k!)<|BB f1<|MM (lown 26 0 (AV.agg [p.quantitiesV,p.measuresV,p.alarmsV]) (kk_h14 _ _ o! (b_h13 _ _ (kk_h8 _ _ o! (b_h7 _ _ (a_hh _ _ G0_0))))) k!)<|BB f1<|CC<|BB f1<|MM (lown 3 3 (AV.int .i64 ((p.alarms.g i0).measure)) (kk_h14 _ _ o! (b_h13 _ _ g_h8)) k!)<|BB f1<|CC<|BB f1<|MM (lown 3 2 (AV.int .i64 ((p.alarms.g i0).limit)) (kk_h14 _ _ o! (b_h13 _ _ g_h8)) k!)<|BB f1<|EE k17<|BB f1<|CC<|BB f1<|CC<|BB f1<|CC<|BB f1<|VV (igtr 3 false false .i64 (IntKind.i64.wrap (((p.alarms.g i0).level)+(IntKind.i64.wrap (((p.quantities.g (Int.toNat ((p.alarms.g i0).quantity))).rise)*(IntKind.i64.wrap ((r_response p ((p.alarms.g i0).measure))+1)))))) ((p.alarms.g i0).limit))<|VV (pick_f (a:=some (AV.bool true)) (b:=some (AV.bool (decide (((p.alarms.g i0).limit)<(IntKind.i64.wrap (((p.alarms.g i0).level)+(IntKind.i64.wrap (((p.quantities.g (Int.toNat ((p.alarms.g i0).quantity))).rise)*(IntKind.i64.wrap ((r_response p ((p.alarms.g i0).measure))+1)))))))))) f1)<|HH (lown 3 2 (AV.int .i64 ((p.quantities.g (Int.toNat ((p.alarms.g i0).quantity))).high)) g_h14 k!)<|HH (show AV.same 20 (AV.int .i64 ((p.quantities.g (Int.toNat ((p.alarms.g i0).quantity))).high)) (AV.int .i64 ((p.quantities.g (Int.toNat ((p.alarms.g i0).quantity))).high))=true from same_int 19 _ _)<|HH (lown 3 1 (AV.int .i64 ((p.alarms.g i0).level)) (kk_h14 _ _ o! (b_h13 _ _ g_h8)) k!)<|HH (show AV.same 20 (AV.int .i64 ((p.alarms.g i0).level)) (AV.int .i64 ((p.alarms.g i0).level))=true from same_int 19 _ _)<|HH (lown 3 1 (AV.int .i64 ((p.alarms.g i0).level)) (kk_h14 _ _ o! (b_h13 _ _ g_h8)) k!)<|HH (show AV.same 20 (AV.int .i64 ((p.alarms.g i0).level)) (AV.int .i64 ((p.alarms.g i0).level))=true from same_int 19 _ _)<|HH (lown 3 1 (AV.int .i64 ((p.alarms.g i0).level)) (kk_h14 _ _ o! (b_h13 _ _ g_h8)) k!)<|HH (show AV.same 20 (AV.int .i64 ((p.alarms.g i0).level)) (AV.int .i64 ((p.alarms.g i0).level))=true from same_int 19 _ _)<|HH (lown 3 3 (AV.int .i64 ((p.quantities.g (Int.toNat ((p.alarms.g i0).quantity))).rise)) g_h14 k!)<|HH (show AV.same 20 (AV.int .i64 ((p.quantities.g (Int.toNat ((p.alarms.g i0).quantity))).rise)) (AV.int .i64 ((p.quantities.g (Int.toNat ((p.alarms.g i0).quantity))).rise))=true from same_int 19 _ _)<|HH (lown 3 3 (AV.int .i64 ((p.quantities.g (Int.toNat ((p.alarms.g i0).quantity))).rise)) g_h14 k!)<|HH (show AV.same 20 (AV.int .i64 ((p.quantities.g (Int.toNat ((p.alarms.g i0).quantity))).rise)) (AV.int .i64 ((p.quantities.g (Int.toNat ((p.alarms.g i0).quantity))).rise))=true from same_int 19 _ _)<|HH (lown 26 0 (AV.agg [p.quantitiesV,p.measuresV,p.alarmsV]) (kk_h14 _ _ o! (b_h13 _ _ (kk_h8 _ _ o! (b_h7 _ _ (a_hh _ _ G0_0))))) k!)<|HH c18<|HH (lown 3 3 (AV.int .i64 ((p.alarms.g i0).measure)) (kk_h14 _ _ o! (b_h13 _ _ g_h8)) k!)<|HH (show AV.same 20 (AV.int .i64 ((p.alarms.g i0).measure)) (AV.int .i64 ((p.alarms.g i0).measure))=true from same_int 19 _ _)<|HH (lown 3 2 (AV.int .i64 ((p.alarms.g i0).limit)) (kk_h14 _ _ o! (b_h13 _ _ g_h8)) k!)<|HH (show AV.same 20 (AV.int .i64 ((p.alarms.g i0).limit)) (AV.int .i64 ((p.alarms.g i0).limit))=true from same_int 19 _ _)<|HH (lown 3 2 (AV.int .i64 ((p.alarms.g i0).limit)) (kk_h14 _ _ o! (b_h13 _ _ g_h8)) k!)<|HH (show AV.same 20 (AV.int .i64 ((p.alarms.g i0).limit)) (AV.int .i64 ((p.alarms.g i0).limit))=true from same_int 19 _ _)<|BB f2<|CN 2<|NN n_h20 (fun i=>(AV.slice i 0 1 1 false))<|PP (show appendA env h20 #[32,32] z0 (AV.slice h14.nx 0 1 1 false)=some (z22,h21) from ap_h21)<|CN 2<|VV u24<|CC<|ZZ) k!
       exact OwnLoop.round (by simp only[r_Late_l0,f1,f2,cond_true,cond_false]) ev (fun x=>((x 0)::(AV.ptr b0_0 0)::rx x 2 3 (z22::(AV.int .i64 (((i0+1):Nat):Int))::rx x 7 52 []))) k! (fun x=>r_Late_l0_t p b0_0 H0_0 H0_1 H0_2 O0_0 E0_0 y_h G0_0 kq0 (i0+1) (v0_5++[((i0:Nat):Int)]) z22 o! x h21 y_h21 A_h21 o! oz23 (by first | omega | (simp;omega)))
     · have n_f2:=of_decide_eq_false f2
       have ln1:lenK (some (.slice 59)) (some p.alarmsV)=some (AV.int .i64 ((p.alarms.length:Nat):Int)):=(H0_2.has a_hh).len
       have q2:(decide (((i0:Nat):Int)<((p.alarms.length:Nat):Int)))=true:=d!
       obtain ⟨p4,q5,ix3_⟩:=(H0_2.has a_hh).elem (i:=i0) o!
       have ix3:idxK env (some (.slice 59)) (some p.alarmsV) (some (AV.int .i64 ((i0:Nat):Int)))=some (AV.ptr p4 q5):=ix3_
       have ld6:loadA env hh 59 (AV.ptr p4 q5)=some (AV.agg [(AV.int .i64 ((p.alarms.g i0).quantity)),(AV.int .i64 ((p.alarms.g i0).level)),(AV.int .i64 ((p.alarms.g i0).limit)),(AV.int .i64 ((p.alarms.g i0).measure))]):=(H0_2.has a_hh).load o! ix3_
       obtain ⟨h7,n_h7,y_h7,z_h7,g_h7,b_h7⟩:=nwB y_hh (AObj.cells [(AV.int .i64 0),(AV.int .i64 0),(AV.int .i64 0),(AV.int .i64 0)] 59 false)
       have a_h7:Has hh h7:=b_h7
       obtain ⟨h8,s_h8,y_h8,z_h8,g_h8,kk_h8⟩:=stwB (t:=59) (n:=4) (i:=hh.nx) (L:=[(AV.int .i64 ((p.alarms.g i0).quantity)),(AV.int .i64 ((p.alarms.g i0).level)),(AV.int .i64 ((p.alarms.g i0).limit)),(AV.int .i64 ((p.alarms.g i0).measure))]) y_h7 g_h7 k! rfl rfl (by simp only[AV.cells,List.all_cons,List.all_nil,Bool.and_true,Bool.and_self,sc_int,sc_bool,sc_str,sc_ptr,sc_slice,sc_ns,sc_np,sc_nm,sc_nf,sc_ni,sc_map])
       have a_h8:Has hh h8:=Has.of_kept a_h7 kk_h8 y_hh o!
       obtain ⟨p10,q11,ix9_⟩:=(H0_0.has a_hh).elem (i:=(Int.toNat ((p.alarms.g i0).quantity))) o!
       have ix9:idxK env (some (.slice 41)) (some p.quantitiesV) (some (AV.int .i64 ((p.alarms.g i0).quantity)))=some (AV.ptr p10 q11):=by rw[show (((p.alarms.g i0).quantity):Int)=(((Int.toNat ((p.alarms.g i0).quantity)):Nat):Int) by omega];exact ix9_
       have ld12:loadA env h8 41 (AV.ptr p10 q11)=some (AV.agg [(AV.str ((p.quantities.g (Int.toNat ((p.alarms.g i0).quantity))).name)),(AV.int .i64 ((p.quantities.g (Int.toNat ((p.alarms.g i0).quantity))).low)),(AV.int .i64 ((p.quantities.g (Int.toNat ((p.alarms.g i0).quantity))).high)),(AV.int .i64 ((p.quantities.g (Int.toNat ((p.alarms.g i0).quantity))).rise)),(AV.int .i64 ((p.quantities.g (Int.toNat ((p.alarms.g i0).quantity))).fall)),(AV.int .i64 ((p.quantities.g (Int.toNat ((p.alarms.g i0).quantity))).bad)),((p.quantities.g (Int.toNat ((p.alarms.g i0).quantity))).gaugesV)]):=((H0_0.has a_hh).has a_h8).load o! ix9_
       obtain ⟨h13,n_h13,y_h13,z_h13,g_h13,b_h13⟩:=nwB y_h8 (AObj.cells [(AV.str []),(AV.int .i64 0),(AV.int .i64 0),(AV.int .i64 0),(AV.int .i64 0),(AV.int .i64 0),AV.nilslice] 41 false)
       have a_h13:Has hh h13:=a_h8.trans b_h13
       have sc15:AV.scalar ((p.quantities.g (Int.toNat ((p.alarms.g i0).quantity))).gaugesV)=true:=(((H0_0.has a_hh).ok (i:=(Int.toNat ((p.alarms.g i0).quantity))) o!).2).scalar
       obtain ⟨h14,s_h14,y_h14,z_h14,g_h14,kk_h14⟩:=stwB (t:=41) (n:=7) (i:=h8.nx) (L:=[(AV.str ((p.quantities.g (Int.toNat ((p.alarms.g i0).quantity))).name)),(AV.int .i64 ((p.quantities.g (Int.toNat ((p.alarms.g i0).quantity))).low)),(AV.int .i64 ((p.quantities.g (Int.toNat ((p.alarms.g i0).quantity))).high)),(AV.int .i64 ((p.quantities.g (Int.toNat ((p.alarms.g i0).quantity))).rise)),(AV.int .i64 ((p.quantities.g (Int.toNat ((p.alarms.g i0).quantity))).fall)),(AV.int .i64 ((p.quantities.g (Int.toNat ((p.alarms.g i0).quantity))).bad)),((p.quantities.g (Int.toNat ((p.alarms.g i0).quantity))).gaugesV)]) y_h13 g_h13 k! rfl rfl (by simp only[AV.cells,List.all_cons,List.all_nil,Bool.and_true,Bool.and_self,sc_int,sc_bool,sc_str,sc_ptr,sc_slice,sc_ns,sc_np,sc_nm,sc_nf,sc_ni,sc_map,sc15])
       have a_h14:Has hh h14:=Has.of_kept a_h13 kk_h14 y_hh o!
       have k17:=r_response_c (d:=d+3) p ((p.alarms.g i0).measure) (RowT.mono a_h14 (RowT.mono a_hh O0_0)) o! o! y_h14
       have c18:AV.same 20 (AV.agg [p.quantitiesV,p.measuresV,p.alarmsV]) (AV.agg [p.quantitiesV,p.measuresV,p.alarmsV])=true:=same_agg 18 (sc_ (H0_0.has a_hh).same (sc_ (H0_1.has a_hh).same (sc_ (H0_2.has a_hh).same sn_)))
       have u20:=nadd 3 false true i0 1 o!
       have ev:=pk (d+4) r_Late_lp0 ((x 0)::(AV.ptr b0_0 0)::rx x 2 3 (z0::(AV.int .i64 ((i0:Nat):Int))::rx x 7 52 [])) hh .normal h14 (CN 2<|MM (lown 24 2 p.alarmsV (a_hh _ _ G0_0) k!)<|VV ln1<|VV (ilss 3 false false .i64 ((i0:Nat):Int) ((p.alarms.length:Nat):Int))<|BB q2<|CC<|MM (lown 24 2 p.alarmsV (a_hh _ _ G0_0) k!)<|CC<|VV ix3<|MM ld6<|NN n_h7 (fun i=>(AV.ptr i 0))<|SS s_h8<|CC<|MM (lown 22 0 p.quantitiesV (kk_h8 _ _ o! (b_h7 _ _ (a_hh _ _ G0_0))) k!)<|CC<|MM (lown 3 0 (AV.int .i64 ((p.alarms.g i0).quantity)) g_h8 k!)<|VV ix9<|MM ld12<|NN n_h13 (fun i=>(AV.ptr i 0))<|SS s_h14<|CN 2<|MM (lown 3 2 (AV.int .i64 ((p.quantities.g (Int.toNat ((p.alarms.g i0).quantity))).high)) g_h14 k!)<|CC<|MM (lown 3 1 (AV.int .i64 ((p.alarms.g i0).level)) (kk_h14 _ _ o! (b_h13 _ _ g_h8)) k!)<|VV (igtr 3 false false .i64 ((p.quantities.g (Int.toNat ((p.alarms.g i0).quantity))).high) ((p.alarms.g i0).level))<|CC<|BB f1<|CC<|BB f1<|MM (lown 3 1 (AV.int .i64 ((p.alarms.g i0).level)) (kk_h14 _ _ o! (b_h13 _ _ g_h8)) k!)<|BB f1<|CC<|BB f1<|MM (lown 3 3 (AV.int .i64 ((p.quantities.g (Int.toNat ((p.alarms.g i0).quantity))).rise)) g_h14 k!)<|BB f1<|MM (lown 26 0 (AV.agg [p.quantitiesV,p.measuresV,p.alarmsV]) (kk_h14 _ _ o! (b_h13 _ _ (kk_h8 _ _ o! (b_h7 _ _ (a_hh _ _ G0_0))))) k!)<|BB f1<|CC<|BB f1<|MM (lown 3 3 (AV.int .i64 ((p.alarms.g i0).measure)) (kk_h14 _ _ o! (b_h13 _ _ g_h8)) k!)<|BB f1<|CC<|BB f1<|MM (lown 3 2 (AV.int .i64 ((p.alarms.g i0).limit)) (kk_h14 _ _ o! (b_h13 _ _ g_h8)) k!)<|BB f1<|EE k17<|BB f1<|CC<|BB f1<|CC<|BB f1<|CC<|BB f1<|VV (igtr 3 false false .i64 (IntKind.i64.wrap (((p.alarms.g i0).level)+(IntKind.i64.wrap (((p.quantities.g (Int.toNat ((p.alarms.g i0).quantity))).rise)*(IntKind.i64.wrap ((r_response p ((p.alarms.g i0).measure))+1)))))) ((p.alarms.g i0).limit))<|VV (pick_f (a:=some (AV.bool true)) (b:=some (AV.bool (decide (((p.alarms.g i0).limit)<(IntKind.i64.wrap (((p.alarms.g i0).level)+(IntKind.i64.wrap (((p.quantities.g (Int.toNat ((p.alarms.g i0).quantity))).rise)*(IntKind.i64.wrap ((r_response p ((p.alarms.g i0).measure))+1)))))))))) f1)<|HH (lown 3 2 (AV.int .i64 ((p.quantities.g (Int.toNat ((p.alarms.g i0).quantity))).high)) g_h14 k!)<|HH (show AV.same 20 (AV.int .i64 ((p.quantities.g (Int.toNat ((p.alarms.g i0).quantity))).high)) (AV.int .i64 ((p.quantities.g (Int.toNat ((p.alarms.g i0).quantity))).high))=true from same_int 19 _ _)<|HH (lown 3 1 (AV.int .i64 ((p.alarms.g i0).level)) (kk_h14 _ _ o! (b_h13 _ _ g_h8)) k!)<|HH (show AV.same 20 (AV.int .i64 ((p.alarms.g i0).level)) (AV.int .i64 ((p.alarms.g i0).level))=true from same_int 19 _ _)<|HH (lown 3 1 (AV.int .i64 ((p.alarms.g i0).level)) (kk_h14 _ _ o! (b_h13 _ _ g_h8)) k!)<|HH (show AV.same 20 (AV.int .i64 ((p.alarms.g i0).level)) (AV.int .i64 ((p.alarms.g i0).level))=true from same_int 19 _ _)<|HH (lown 3 1 (AV.int .i64 ((p.alarms.g i0).level)) (kk_h14 _ _ o! (b_h13 _ _ g_h8)) k!)<|HH (show AV.same 20 (AV.int .i64 ((p.alarms.g i0).level)) (AV.int .i64 ((p.alarms.g i0).level))=true from same_int 19 _ _)<|HH (lown 3 3 (AV.int .i64 ((p.quantities.g (Int.toNat ((p.alarms.g i0).quantity))).rise)) g_h14 k!)<|HH (show AV.same 20 (AV.int .i64 ((p.quantities.g (Int.toNat ((p.alarms.g i0).quantity))).rise)) (AV.int .i64 ((p.quantities.g (Int.toNat ((p.alarms.g i0).quantity))).rise))=true from same_int 19 _ _)<|HH (lown 3 3 (AV.int .i64 ((p.quantities.g (Int.toNat ((p.alarms.g i0).quantity))).rise)) g_h14 k!)<|HH (show AV.same 20 (AV.int .i64 ((p.quantities.g (Int.toNat ((p.alarms.g i0).quantity))).rise)) (AV.int .i64 ((p.quantities.g (Int.toNat ((p.alarms.g i0).quantity))).rise))=true from same_int 19 _ _)<|HH (lown 26 0 (AV.agg [p.quantitiesV,p.measuresV,p.alarmsV]) (kk_h14 _ _ o! (b_h13 _ _ (kk_h8 _ _ o! (b_h7 _ _ (a_hh _ _ G0_0))))) k!)<|HH c18<|HH (lown 3 3 (AV.int .i64 ((p.alarms.g i0).measure)) (kk_h14 _ _ o! (b_h13 _ _ g_h8)) k!)<|HH (show AV.same 20 (AV.int .i64 ((p.alarms.g i0).measure)) (AV.int .i64 ((p.alarms.g i0).measure))=true from same_int 19 _ _)<|HH (lown 3 2 (AV.int .i64 ((p.alarms.g i0).limit)) (kk_h14 _ _ o! (b_h13 _ _ g_h8)) k!)<|HH (show AV.same 20 (AV.int .i64 ((p.alarms.g i0).limit)) (AV.int .i64 ((p.alarms.g i0).limit))=true from same_int 19 _ _)<|HH (lown 3 2 (AV.int .i64 ((p.alarms.g i0).limit)) (kk_h14 _ _ o! (b_h13 _ _ g_h8)) k!)<|HH (show AV.same 20 (AV.int .i64 ((p.alarms.g i0).limit)) (AV.int .i64 ((p.alarms.g i0).limit))=true from same_int 19 _ _)<|BB f2<|CC<|VV u20<|CC<|ZZ) k!
       exact OwnLoop.round (by simp only[r_Late_l0,f1,f2,cond_true,cond_false]) ev (fun x=>((x 0)::(AV.ptr b0_0 0)::rx x 2 3 (z0::(AV.int .i64 (((i0+1):Nat):Int))::rx x 7 52 []))) k! (fun x=>r_Late_l0_t p b0_0 H0_0 H0_1 H0_2 O0_0 E0_0 y_h G0_0 kq0 (i0+1) v0_5 z0 o! x h14 y_h14 (a_hh.trans a_h14) o! (oz0.has a_h14) (by first | omega | (simp;omega)))
def r_Late (p:Plan):List Int×Int:=(bif (!decide ((r_Check p)=0)) then ([],(r_Check p)) else ((r_Late_l0 p p.alarms.length 0 ([])),0))
theorem r_Late_c {d:Nat} {h:Heap} (p:Plan) (h_p:RowT.ok h p) (y_h:Tidy h):∃z hk,cal (d+5) (.fn 9) [(AV.agg [p.quantitiesV,p.measuresV,p.alarmsV])] h= .ret (AV.tuple [z,(AV.int .i64 ((r_Late p).2))]) hk∧Grow h hk∧ZsAt hk 3 z (r_Late p).1:=by
 have s_h_p_1:=h_p.1.small
 have s_h_p_2_1:=h_p.2.1.small
 have s_h_p_2_2:=h_p.2.2.small
 rcases Bool.eq_false_or_eq_true (!decide ((r_Check p)=0)) with f0 | f0
 · have n_f0:=nT_ f0
   obtain ⟨h1,n_h1,y_h1,z_h1,g_h1,b_h1⟩:=nwB y_h (AObj.cells [p.quantitiesV,p.measuresV,p.alarmsV] 26 false)
   have a_h1:Has h h1:=b_h1
   have k2:=r_Check_c (d:=d) p (RowT.mono a_h1 h_p) y_h1
   have ev:=pk (d+4) r_Late_body ((AV.agg [p.quantitiesV,p.measuresV,p.alarmsV])::und 58) h .ret h1 (NN n_h1 (fun i=>(AV.ptr i 0))<|CN 2<|MM (lown 26 0 (AV.agg [p.quantitiesV,p.measuresV,p.alarmsV]) g_h1 k!)<|EE k2<|CN 2<|VV (ineq 29 false true .i64 (r_Check p) 0)<|BB f0<|CN 3<|ZZ) k!
   have e:r_Late p=([],(r_Check p)):=by simp only[r_Late,f0,cond_true,cond_false]
   rw[e]
   exact ⟨.nilslice,callP_grow rfl (fn_of Tryz.func9 r_Late_B k! (.inr rfl) ev k!) y_h ⟨y_h1,a_h1,by omega⟩ (P:=fun hh=>ZsAt hh 3 .nilslice []) (ZsAt.nil k! k!) fun _=>ZsAt.nil k! k!⟩
 · have n_f0:=nF_ f0
   obtain ⟨h1,n_h1,y_h1,z_h1,g_h1,b_h1⟩:=nwB y_h (AObj.cells [p.quantitiesV,p.measuresV,p.alarmsV] 26 false)
   have a_h1:Has h h1:=b_h1
   have k2:=r_Check_c (d:=d) p (RowT.mono a_h1 h_p) y_h1
   obtain ⟨zo6,yl4,h5,ev_yl4,G_h5,oz7,ln8⟩:=r_Late_l0_t (d:=d) (h:=h1) p h.nx (h_p.1.has a_h1) (h_p.2.1.has a_h1) (h_p.2.2.has a_h1) (RowT.mono a_h1 h_p) (Check_ok ((Check_eq p).trans (by assumption))) y_h1 g_h1 p.alarms.length 0 ([]) AV.nilslice o! (fun k_=>(((AV.agg [p.quantitiesV,p.measuresV,p.alarmsV])::(AV.ptr h.nx 0)::AV.nilslice::(AV.int .i64 0)::(AV.int .i64 (r_Check p))::AV.nilslice::(AV.int .i64 0)::AV.undef::AV.undef::(AV.agg [p.quantitiesV,p.measuresV,p.alarmsV])::(AV.int .i64 (r_Check p))::(AV.int .i64 (r_Check p))::(AV.bool (!decide ((r_Check p)=0)))::und 46):List AV).getD k_ AV.undef) h1 y_h1 (Has.refl _) (Nat.le_refl _) (.inl ⟨rfl,rfl⟩) (Nat.zero_le _)
   rw[zs_len] at ln8
   have y_h5:=G_h5.y
   have m_h5:h1.nx≤h5.nx:=G_h5.n
   have a_h5:Has h h5:=a_h1.trans G_h5.a
   have ev:=pk (d+4) r_Late_body ((AV.agg [p.quantitiesV,p.measuresV,p.alarmsV])::und 58) h .ret h5 (NN n_h1 (fun i=>(AV.ptr i 0))<|CN 2<|MM (lown 26 0 (AV.agg [p.quantitiesV,p.measuresV,p.alarmsV]) g_h1 k!)<|EE k2<|CN 2<|VV (ineq 29 false true .i64 (r_Check p) 0)<|BB f0<|CN 2<|LL ev_yl4<|CN 3<|ZZ) k!
   have e:r_Late p=((r_Late_l0 p p.alarms.length 0 ([])),0):=by simp only[r_Late,f0,cond_true,cond_false]
   rw[e]
   have oz:=OwnC.le (h0:=h) oz7 o!
   exact ⟨zo6,callP_grow rfl (fn_of Tryz.func9 r_Late_B k! (.inr rfl) ev k!) y_h ⟨y_h5,a_h5,by omega⟩ (P:=fun hh=>ZsAt hh 3 zo6 (r_Late_l0 p p.alarms.length 0 ([]))) (oz.zs o! k! k!) fun v=>oz.zback (within1 v) k! k!⟩
end Go.Proofs.Bench
