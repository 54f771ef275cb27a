import PyProof.Rows.All
import Wide.All
import OpenK.AllK
import Wide.FinOn
import PyProof.EqAt
import PyProof.EqKinds
import PyProof.TupleCall
import KE.BitLaws
import Open.SpecLaws
import KE.OsHead
import KE.OsGo
import KE.KTryDeep
import PyProof.Rows.SortShellAny
import PyProof.DictRoadsH
import KE.KRevSl
import KE.KDictList
import PySem.Challenge.RW_relationsfound_s01_answers
set_option Elab.async false
set_option linter.all false
namespace Rf
open VametBase Vametc
theorem zE8(n:Int):∀l:List Int,(putInt n l).Perm (n::l)
 | []=> .refl _
 | x::l=>by
  unfold putInt
  split
  ·exact .refl _
  ·exact((zE8 n l).cons x).trans (.swap n x l)
theorem zEy:∀(l k:List Int),(l.foldl (fun k x=>putInt x k) k).Perm (k++l)
 | [],k=>by simp
 | x::l,k=>by
  rw[List.foldl_cons]
  refine(zEy l (putInt x k)).trans ?_
  refine((zE8 x k).append_right l).trans ?_
  rw[List.cons_append]
  exact List.perm_middle.symm
theorem zHd(l:List Int):(sorted l).Perm l:=by
 have:=zEy l []
 simpa [sorted]using this
theorem zKl(n:Int):∀l:List Int,l.Pairwise (·<=·)->(putInt n l).Pairwise (·<=·)
 | [],_=>by simp[putInt]
 | x::l,h=>by
  rw[List.pairwise_cons]at h
  unfold putInt
  split
  ·rename_i hlt
   rw[List.pairwise_cons]
   refine⟨fun a ha=>?_,List.pairwise_cons.mpr h⟩
   rcases List.mem_cons.mp ha with rfl | ha
   ·omega
   ·have:=h.1 a ha;omega
  ·rename_i hlt
   rw[List.pairwise_cons]
   refine⟨fun a ha=>?_,zKl n l h.2⟩
   rcases List.mem_cons.mp ((zE8 n l).mem_iff.mp ha)with rfl | ha
   ·omega
   ·exact h.1 a ha
theorem zGm:∀(l k:List Int),k.Pairwise (·<=·)->(l.foldl (fun k x=>putInt x k) k).Pairwise (·<=·)
 | [],_,h=>h
 | x::l,k,h=>zGm l (putInt x k) (zKl x k h)
theorem zKm(l:List Int):(sorted l).Pairwise (·<=·):=zGm l [] .nil
theorem zKn:∀{l m:List Int},l.Perm m->l.Pairwise (·<=·)->m.Pairwise (·<=·)->l=m
 | [],m,p,_,_=>(List.nil_perm.mp p).symm
 | a::l,m,p,hl,hm=>by
  cases m with
  | nil=>exact absurd p.length_eq (by simp)
  | cons b m=>
   have h1:=List.pairwise_cons.mp hl
   have h2:=List.pairwise_cons.mp hm
   have e:a=b:=by
    have x1:a∈b::m:=p.mem_iff.mp List.mem_cons_self
    have x2:b∈a::l:=p.mem_iff.mpr List.mem_cons_self
    rcases List.mem_cons.mp x1 with e | x1
    ·exact e
    ·rcases List.mem_cons.mp x2 with e | x2
     ·exact e.symm
     ·have:=h1.1 b x2;have:=h2.1 a x1;omega
   subst e
   rw[zKn (List.Perm.cons_inv p) h1.2 h2.2]
theorem zEc{l m:List Int}(p:m.Perm l)(h:m.Pairwise (·<=·)):m=sorted l:=zKn (p.trans (zHd l).symm) h (zKm l)
theorem zHe:∀l:List Int,rises l=true↔l.Pairwise (·<=·)
 | []=>by simp[rises]
 | [a]=>by simp[rises]
 | a::b::l=>by
  have ih:=zHe (b::l)
  rw[rises,Bool.and_eq_true,ih,decide_eq_true_iff,List.pairwise_cons (a:=a)]
  constructor
  ·rintro⟨h1,h2⟩
   refine⟨fun x hx=>?_,h2⟩
   rcases List.mem_cons.mp hx with rfl | hx
   ·exact h1
   ·have:=(List.pairwise_cons.mp h2).1 x hx;omega
  ·rintro⟨h1,h2⟩
   exact⟨h1 b List.mem_cons_self,h2⟩
theorem zRa(l:List Int):rises l=decide (l=sorted l):=by
 by_cases h:l.Pairwise (·<=·)
 ·rw[(zHe l).mpr h,decide_eq_true (zEc (.refl l) h)]
 ·have h1:¬rises l=true:=fun e=>h ((zHe l).mp e)
  have h2:¬l=sorted l:=fun e=>h (by rw[e];exact zKm l)
  rw[decide_eq_false h2]
  simpa using h1
theorem zJh(l:List Int):(sorted l).length=l.length:=(zHd l).length_eq
theorem zKo:∀(l:List Int) (x:Int),(l.foldl (fun a b=>if a < b then b else a) x)∈x::l/\∀a∈x::l,a<=l.foldl (fun a b=>if a < b then b else a) x
 | [],x=>by simp
 | y::l,x=>by
  rw[List.foldl_cons]
  have ih:=zKo l (if x < y then y else x)
  generalize (l.foldl (fun a b=>if a < b then b else a) (if x < y then y else x))=M at ih
  obtain⟨i1,i2⟩:=ih
  have h0:=i2 _ List.mem_cons_self
  refine⟨?_,fun a ha=>?_⟩
  ·rcases List.mem_cons.mp i1 with e | i1
   ·rw[e];split <;> simp
   ·simp[i1]
  ·rcases List.mem_cons.mp ha with rfl | ha
   ·split at h0 <;> omega
   ·rcases List.mem_cons.mp ha with rfl | ha
    ·split at h0 <;> omega
    ·exact i2 a (List.mem_cons_of_mem _ ha)
theorem zHf:∀(l:List Int) (x:Int),(l.foldl (fun a b=>if b < a then b else a) x)∈x::l/\∀a∈x::l,l.foldl (fun a b=>if b < a then b else a) x<=a
 | [],x=>by simp
 | y::l,x=>by
  rw[List.foldl_cons]
  have ih:=zHf l (if y < x then y else x)
  generalize (l.foldl (fun a b=>if b < a then b else a) (if y < x then y else x))=M at ih
  obtain⟨i1,i2⟩:=ih
  have h0:=i2 _ List.mem_cons_self
  refine⟨?_,fun a ha=>?_⟩
  ·rcases List.mem_cons.mp i1 with e | i1
   ·rw[e];split <;> simp
   ·simp[i1]
  ·rcases List.mem_cons.mp ha with rfl | ha
   ·split at h0 <;> omega
   ·rcases List.mem_cons.mp ha with rfl | ha
    ·split at h0 <;> omega
    ·exact i2 a (List.mem_cons_of_mem _ ha)
theorem zL9{l:List Int}{M:Int}(h1:M∈l)(h2:∀a∈l,a<=M):greatestOf l=some M:=by
 cases l with
 | nil=>cases h1
 | cons x l=>
  have h:=zKo l x
  show some _=some M
  have a1:=h2 _ h.1
  have a2:=h.2 _ h1
  rw[show l.foldl (fun a b=>if a < b then b else a) x=M by omega]
theorem zRb{l:List Int}{M:Int}(h1:M∈l)(h2:∀a∈l,M<=a):leastOf l=some M:=by
 cases l with
 | nil=>cases h1
 | cons x l=>
  have h:=zHf l x
  show some _=some M
  have a1:=h2 _ h.1
  have a2:=h.2 _ h1
  rw[show l.foldl (fun a b=>if b < a then b else a) x=M by omega]
theorem zKp:∀(l:List Int) (a:Int),l.foldl (fun a b=>a+b) a=a+l.sum
 | [],a=>by simp
 | x::l,a=>by rw[List.foldl_cons,zKp l,List.sum_cons];omega
theorem zRc(l:List Int):total l=l.sum:=by unfold total;rw[zKp];omega
noncomputable def zCm(k:List Int)(x:Int):List Int:=if k.contains x then k else k++ [x]
theorem zDv(l:List Int):onceOnly l=l.foldl zCm []:=rfl
theorem zIp:∀(l k:List Int),k.Nodup->(l.foldl zCm k).Nodup
 | [],_,h=>h
 | x::l,k,h=>by
  rw[List.foldl_cons]
  refine zIp l _ ?_
  unfold zCm
  split
  ·exact h
  ·rename_i hc
   have hx:x∉k:=fun m=>hc (List.contains_iff_mem.mpr m)
   exact List.nodup_append.mpr ⟨h,by simp,fun a ha b hb=>by
    have:=List.mem_singleton.mp hb;subst this;rintro rfl;exact hx ha⟩
theorem zM0:∀(l k:List Int) (a:Int),a∈l.foldl zCm k↔a∈k\/a∈l
 | [],k,a=>by simp
 | x::l,k,a=>by
  rw[List.foldl_cons,zM0 l]
  unfold zCm
  split
  ·rename_i hc
   have hx:x∈k:=List.contains_iff_mem.mp hc
   constructor
   ·rintro(h | h)
    ·exact .inl h
    ·exact .inr (List.mem_cons_of_mem _ h)
   ·rintro(h | h)
    ·exact .inl h
    ·rcases List.mem_cons.mp h with rfl | h
     ·exact .inl hx
     ·exact .inr h
  ·rw[List.mem_append,List.mem_singleton,List.mem_cons]
   constructor
   ·rintro((h | h) | h)
    ·exact .inl h
    ·exact .inr (.inl h)
    ·exact .inr (.inr h)
   ·rintro(h | h | h)
    ·exact .inl (.inl h)
    ·exact .inl (.inr h)
    ·exact .inr h
theorem mem_once{l:List Int}{a:Int}:a∈onceOnly l↔a∈l:=by
 rw[zDv,zM0];simp
theorem zDi(l:List Int):(onceOnly l).Nodup:=zIp l [] List.nodup_nil
theorem zJi(l:List Int)(x:Int):onceOnly (l++ [x])=if x∈l then onceOnly l else onceOnly l++ [x]:=by
 rw[zDv,List.foldl_append,<-zDv]
 show zCm (onceOnly l) x= _
 unfold zCm
 by_cases h:x∈l
 ·rw[if_pos h,if_pos (List.contains_iff_mem.mpr (mem_once.mpr h))]
 ·rw[if_neg h,if_neg (fun c=>h (mem_once.mp (List.contains_iff_mem.mp c)))]
theorem zEz(l:List Int):(onceOnly l).length<=l.length:=by
 have:∀(l k:List Int),(l.foldl zCm k).length<=k.length+l.length:=by
  intro l
  induction l with
  | nil=>intro k;simp
  | cons x l ih=>
   intro k
   rw[List.foldl_cons]
   have:=ih (zCm k x)
   have h2:(zCm k x).length<=k.length+1:=by
    unfold zCm;split <;> simp
   simp only [List.length_cons];omega
 have:=this l []
 simpa [zDv]using this
theorem zOa(a b:List Int):stands .numbers a b=true↔∀x,x∈a↔x∈b:=by
 show(a.all b.contains&&b.all a.contains)=true↔_
 rw[Bool.and_eq_true,List.all_eq_true,List.all_eq_true]
 constructor
 ·rintro⟨h1,h2⟩ x
  exact⟨fun h=>List.contains_iff_mem.mp (h1 x h),fun h=>List.contains_iff_mem.mp (h2 x h)⟩
 ·intro h
  exact⟨fun x hx=>List.contains_iff_mem.mpr ((h x).mp hx),fun x hx=>List.contains_iff_mem.mpr ((h x).mpr hx)⟩
theorem zKq:∀a b:List Int,a.isPrefixOf b=decide (b.take a.length=a)
 | [],b=>by simp
 | x::a,[]=>by simp
 | x::a,y::b=>by
  rw[List.isPrefixOf_cons_cons,zKq a b,List.length_cons,List.take_succ_cons]
  by_cases h:x=y
  ·subst h;simp
  ·have e1:(x == y)=false:=beq_eq_false_iff_ne.mpr h
   have e2:¬(y::List.take a.length b=x::a):=fun e=>h (List.cons.inj e).1.symm
   rw[e1,decide_eq_false e2];rfl
theorem zGn:∀(l:List Int) (a x:Int),runningFrom a (l++ [x])=runningFrom a l++ [a+l.sum+x]
 | [],a,x=>by simp[runningFrom]
 | y::l,a,x=>by
  show(a+y)::runningFrom (a+y) (l++ [x])=(a+y)::(runningFrom (a+y) l++ [a+ (y::l).sum+x])
  rw[zGn l,List.sum_cons]
  simp only [List.cons.injEq,true_and]
  congr 2;omega
theorem zA2{α:Type}{l:List α}{i:Nat}{x:α}(h:l[i]? =some x):l.take (i+1)=l.take i++ [x]:=by
 rw[List.take_add_one,h];rfl
noncomputable def zCh(lo:Int)(w:Nat):Nat->List Row
 | 0=>[[]]
 | n+1=>(zCh lo w n).flatMap fun r=>(List.range w).map fun d=>r++ [lo+int d]
noncomputable def zCc(lo:Int)(w:Nat):Nat->List Row
 | 0=>[[]]
 | n+1=>zCc lo w n++zCh lo w (n+1)
noncomputable def zAz(w:Nat):Nat->Nat
 | 0=>1
 | n+1=>zAz w n+w ^ (n+1)
theorem zEn{w:Nat}(hw:1<=w):∀n,powerOf w n=Nat.min 1501 (w ^ n)
 | 0=>rfl
 | n+1=>by
  show Nat.min (1500+1) (w * powerOf w n)= _
  rw[zEn hw n,Nat.pow_succ]
  show min 1501 (w * min 1501 (w ^ n))=min 1501 (w ^ n * w)
  rw[Nat.mul_comm (w ^ n) w]
  by_cases h:w ^ n<=1501
  ·rw[Nat.min_eq_right h]
  ·rw[Nat.min_eq_left (by omega:1501<=w ^ n)]
   have h1:1501<=w * 1501:=Nat.le_mul_of_pos_left _ hw
   have h2:w * 1501<=w * w ^ n:=Nat.mul_le_mul_left w (by omega)
   omega
theorem zIq{w:Nat}(hw:1<=w):∀n,countTo w n=Nat.min 1501 (zAz w n)
 | 0=>rfl
 | n+1=>by
  show Nat.min (1500+1) (countTo w n+powerOf w (n+1))=Nat.min 1501 (zAz w n+w ^ (n+1))
  rw[zIq hw n,zEn hw]
  show min 1501 (min 1501 (zAz w n) +min 1501 (w ^ (n+1)))=min 1501 (zAz w n+w ^ (n+1))
  omega
theorem zDe(w:Nat){m n:Nat}(h:m<=n):zAz w m<=zAz w n:=by
 induction n with
 | zero=>(have:m=0:=by omega);subst this;exact Nat.le_refl _
 | succ n ih=>
  by_cases e:m=n+1
  ·subst e;exact Nat.le_refl _
  ·exact Nat.le_trans (ih (by omega)) (Nat.le_add_right _ _)
theorem zGo(w:Nat):∀n,w ^ n<=zAz w n
 | 0=>Nat.le_refl _
 | n+1=>Nat.le_add_left _ _
theorem zFl{α:Type}(f:Nat->α)(w:Nat):∀a,(List.range (a * w)).map f=(List.range a).flatMap fun q=>(List.range w).map fun d=>f (q * w+d)
 | 0=>by simp
 | a+1=>by
  rw[List.range_succ,List.flatMap_append,<-zFl f w a,Nat.succ_mul,List.range_add,List.map_append]
  simp[List.flatMap_cons,List.map_map,Function.comp_def]
theorem zHg(lo:Int){w:Nat}(hw:1<=w):∀n,zCh lo w n=(List.range (w ^ n)).map fun k=>(digits w n k).map fun(d:Nat)=>lo+int d
 | 0=>by simp[zCh,digits]
 | n+1=>by
  rw[Nat.pow_succ,zFl]
  show(zCh lo w n).flatMap _= _
  rw[zHg lo hw n,List.flatMap_map]
  congr 1
  funext q
  refine List.map_congr_left fun d hd=>?_
  have hd:d < w:=List.mem_range.mp hd
  show _=(digits w n ((q * w+d) / w) ++ [(q * w+d) % w]).map _
  rw[Nat.mul_comm q w,Nat.mul_add_div hw,Nat.mul_add_mod,Nat.div_eq_of_lt hd,Nat.mod_eq_of_lt hd,Nat.add_zero,List.map_append]
  rfl
theorem zFm(lo:Int){w:Nat}(hw:1<=w)(n:Nat):(zCh lo w n).length=w ^ n:=by rw[zHg lo hw,List.length_map,List.length_range]
theorem zDj(lo:Int){w:Nat}(hw:1<=w):∀n,(zCc lo w n).length=zAz w n
 | 0=>rfl
 | n+1=>by
  show(zCc lo w n++zCh lo w (n+1)).length= _
  rw[List.length_append,zDj lo hw n,zFm lo hw];rfl
noncomputable def zB9(w:Nat):Nat->Nat
 | 0=>0
 | n+1=>zAz w n
theorem zM1{w:Nat}(hw:1<=w):∀(d f m k:Nat),w ^ (m+d)<=1500->d < f->(∀j,j < d->w ^ (m+j)<=1500)->zB9 w (m+d)<=zB9 w m+k->zB9 w m+k < zB9 w (m+d) +w ^ (m+d)->
  placeFrom w f m k=(m+d,zB9 w m+k - zB9 w (m+d))
 | 0,f+1,m,k,h,_,_,h1,h2=>by
  show(if k < powerOf w m then(m,k)else _)= _
  rw[if_pos (by rw[zEn hw];show k < min 1501 (w ^ m);simp only [Nat.add_zero]at *;omega)]
  simp only [Nat.add_zero]
  congr 1;omega
 | d+1,f+1,m,k,h,hf,hj,h1,h2=>by
  have e0:w ^ m<=1500:=hj 0 (Nat.succ_pos _)
  have hb:zB9 w (m+1)=zB9 w m+w ^ m:=by
   cases m with
   | zero=>simp[zB9,zAz]
   | succ m=>rfl
  have mono:∀a b,a<=b->zB9 w a<=zB9 w b:=by
   intro a b hab
   cases a with
   | zero=>exact Nat.zero_le _
   | succ a=>
    cases b with
    | zero=>omega
    | succ b=>exact zDe w (by omega)
  have hk:zB9 w (m+1)<=zB9 w (m+ (d+1)):=mono _ _ (by omega)
  have ep:powerOf w m=w ^ m:=by rw[zEn hw];show min 1501 (w ^ m)= _;omega
  show(if k < powerOf w m then(m,k)else placeFrom w f (m+1) (k - powerOf w m))= _
  rw[ep,if_neg (by omega)]
  have ih:=zM1 hw d f (m+1) (k - w ^ m) (by rw[show m+1+d=m+ (d+1) by omega];exact h) (by omega) (fun j hj'=>by rw[show m+1+j=m+ (j+1) by omega];exact hj (j+1) (by omega))
   (by rw[show m+1+d=m+ (d+1) by omega];omega) (by rw[show m+1+d=m+ (d+1) by omega];omega)
  rw[ih,show m+1+d=m+ (d+1) by omega]
  congr 1;omega
theorem zMa(b:Bound)(hw:1<=width b)(h:zAz (width b) b.long<=1500):∀n,n<=b.long->(List.range (zAz (width b) n)).map (inputAt b)=zCc b.lo (width b) n:=by
 have row:∀n,n<=b.long->∀j,j < width b ^ n->inputAt b (zB9 (width b) n+j)=(digits (width b) n j).map fun(d:Nat)=>b.lo+int d:=by
  intro n hn j hj
  have q:∀i,i<=n->width b ^ i<=1500:=fun i hi=>Nat.le_trans (zGo _ i) (Nat.le_trans (zDe _ (by omega:i<=b.long)) h)
  have e:=zM1 hw n (b.long+1) 0 (zB9 (width b) n+j) (by rw[Nat.zero_add];exact q n (Nat.le_refl _)) (by omega) (fun i hi=>by rw[Nat.zero_add];exact q i (by omega))
   (by rw[Nat.zero_add];show _<=0+ _;omega) (by rw[Nat.zero_add];show 0+ _ < _;omega)
  show(digits (width b) (placeFrom (width b) (b.long+1) 0 (zB9 (width b) n+j)).1 (placeFrom (width b) (b.long+1) 0 (zB9 (width b) n+j)).2).map _= _
  rw[e]
  show(digits (width b) (0+n) (0+ (zB9 (width b) n+j) - zB9 (width b) (0+n))).map _= _
  rw[Nat.zero_add,show 0+ (zB9 (width b) n+j) - zB9 (width b) n=j by omega]
 intro n
 induction n with
 | zero=>
  intro _
  have:=row 0 (Nat.zero_le _) 0 (by simp)
  show [inputAt b 0] = [[]]
  rw[show(0:Nat)=zB9 (width b) 0+0 from rfl,this]
  rfl
 | succ n ih=>
  intro hn
  show(List.range (zAz (width b) n+width b ^ (n+1))).map _=zCc b.lo (width b) n++zCh b.lo (width b) (n+1)
  rw[List.range_add,List.map_append,ih (by omega),zHg b.lo hw,List.map_map]
  congr 1
  refine List.map_congr_left fun j hj=>?_
  exact row (n+1) hn j (List.mem_range.mp hj)
theorem zDw(b:Bound)(hw:1<=width b):inputCount b=Nat.min 1501 (zAz (width b) b.long):=zIq hw _
theorem zMb(b:Bound)(hw:1<=width b)(h:zAz (width b) b.long<=1500):inputsOf b=zCc b.lo (width b) b.long:=by
 unfold inputsOf
 rw[zDw b hw,show Nat.min 1501 (zAz (width b) b.long)=zAz (width b) b.long from Nat.min_eq_right (by omega)]
 exact zMa b hw h b.long (Nat.le_refl _)
theorem getElem?_flatMap_const{α β:Type}{f:α->List β}{m:Nat}(hm:0 < m)(hf:∀x,(f x).length=m):∀(l:List α) (k:Nat),(l.flatMap f)[k]? =(l[k / m]?).bind fun x=>(f x)[k % m]?
 | [],k=>by simp
 | x::l,k=>by
  rw[List.flatMap_cons]
  by_cases h:k < m
  ·rw[List.getElem?_append_left (by rw[hf];exact h),Nat.div_eq_of_lt h,Nat.mod_eq_of_lt h];rfl
  ·rw[List.getElem?_append_right (by rw[hf];omega),hf,getElem?_flatMap_const hm hf l]
   obtain⟨j,rfl⟩:∃j,k=j+m:=⟨k - m,by omega⟩
   rw[Nat.add_sub_cancel,Nat.add_div_right _ hm,Nat.add_mod_right]
   rfl
theorem zA1{α β:Type}{f:α->List β}{m:Nat}(hf:∀x,(f x).length=m):∀l:List α,(l.flatMap f).length=l.length * m
 | []=>by simp
 | x::l=>by rw[List.flatMap_cons,List.length_append,hf,zA1 hf l,List.length_cons,Nat.succ_mul,Nat.add_comm]
theorem zB4(g:Family):(candidates g).length=g.inputs.length * g.outputs.length * g.conds.length * g.rels.length:=by
 unfold candidates
 rw[zA1 (m:=g.outputs.length * (g.conds.length * g.rels.length))]
 ·rw[Nat.mul_assoc,Nat.mul_assoc]
 ·intro i
  rw[zA1 (m:=g.conds.length * g.rels.length)]
  intro o
  rw[zA1 (m:=g.rels.length)]
  intro c
  rw[List.length_map]
theorem zJj(g:Family){k:Nat}{i o:Program}{c:Cond}{r:Rel}(hk:k < (candidates g).length)
  (hr:g.rels[k % g.rels.length]? =some r) (hc:g.conds[k / g.rels.length % g.conds.length]? =some c) (ho:g.outputs[k / g.rels.length / g.conds.length % g.outputs.length]? =some o)
  (hi:g.inputs[k / g.rels.length / g.conds.length / g.outputs.length]? =some i):(candidates g)[k]? =some ⟨c,i,r,o⟩:=by
 rw[zB4]at hk
 have pR:0 < g.rels.length:=Nat.pos_of_ne_zero fun e=>by rw[e]at hk;simp at hk
 have pC:0 < g.conds.length:=Nat.pos_of_ne_zero fun e=>by rw[e]at hk;simp at hk
 have pO:0 < g.outputs.length:=Nat.pos_of_ne_zero fun e=>by rw[e]at hk;simp at hk
 unfold candidates
 rw[getElem?_flatMap_const (m:=g.outputs.length * (g.conds.length * g.rels.length)) (Nat.mul_pos pO (Nat.mul_pos pC pR))]
 ·have e1:k / (g.outputs.length * (g.conds.length * g.rels.length))=k / g.rels.length / g.conds.length / g.outputs.length:=by
   rw[Nat.div_div_eq_div_mul,Nat.div_div_eq_div_mul];congr 1;rw[Nat.mul_comm g.outputs.length,Nat.mul_comm g.conds.length,Nat.mul_assoc]
  rw[e1,hi]
  show(List.flatMap _ g.outputs)[_]? = _
  rw[getElem?_flatMap_const (m:=g.conds.length * g.rels.length) (Nat.mul_pos pC pR)]
  ·have e2:k % (g.outputs.length * (g.conds.length * g.rels.length)) / (g.conds.length * g.rels.length)=k / g.rels.length / g.conds.length % g.outputs.length:=by
    rw[Nat.div_div_eq_div_mul,Nat.mul_comm g.outputs.length,Nat.mod_mul_right_div_self,Nat.mul_comm g.conds.length]
   rw[e2,ho]
   show(List.flatMap _ g.conds)[_]? = _
   rw[getElem?_flatMap_const (m:=g.rels.length) pR]
   ·have e3:k % (g.outputs.length * (g.conds.length * g.rels.length)) % (g.conds.length * g.rels.length)=k % (g.conds.length * g.rels.length):=by
     rw[Nat.mod_mod_of_dvd];exact Nat.dvd_mul_left _ _
    have e4:k % (g.conds.length * g.rels.length) / g.rels.length=k / g.rels.length % g.conds.length:=by
     rw[Nat.mul_comm g.conds.length,Nat.mod_mul_right_div_self]
    have e5:k % (g.conds.length * g.rels.length) % g.rels.length=k % g.rels.length:=Nat.mod_mod_of_dvd _ (Nat.dvd_mul_left _ _)
    rw[e3,e4,hc]
    show(List.map _ g.rels)[_]? = _
    rw[e5,List.getElem?_map,hr]
    rfl
   ·intro c;rw[List.length_map]
  ·intro o
   rw[zA1 (m:=g.rels.length)]
   intro c
   rw[List.length_map]
 ·intro i
  rw[zA1 (m:=g.conds.length * g.rels.length)]
  intro o
  rw[zA1 (m:=g.rels.length)]
  intro c
  rw[List.length_map]
theorem zFn{α:Type}(p:α->Bool):∀(l:List α) (n:Nat),((l.zipIdx n).filter fun z=>p z.1).map (fun z=>z.2)=((List.range l.length).filter fun k=>(l[k]?).any p).map fun k=>n+k
 | [],n=>by simp
 | x::l,n=>by
  rw[List.zipIdx_cons,List.length_cons,List.range_succ_eq_map,List.filter_cons,List.filter_cons]
  have e:((List.range l.length).map Nat.succ).filter (fun k=>((x::l)[k]?).any p)=((List.range l.length).filter fun k=>(l[k]?).any p).map Nat.succ:=by
   rw[List.filter_map];rfl
  have ih:=zFn p l (n+1)
  have e2:(((List.range l.length).filter fun k=>(l[k]?).any p).map Nat.succ).map (fun k=>n+k)=((List.range l.length).filter fun k=>(l[k]?).any p).map fun k=>n+1+k:=by
   rw[List.map_map];refine List.map_congr_left fun k _=>?_;show n+ (k+1)= _;omega
  by_cases h:p x=true
  ·rw[if_pos h,if_pos (by show(some x).any p=true;exact h),List.map_cons,List.map_cons,ih,e,e2];rfl
  ·rw[if_neg h,if_neg (by show¬(some x).any p=true;exact h),ih,e,e2]
theorem zG8(f:Program)(xs:List Row)(g:Family):found f xs g=(List.range (candidates g).length).filter fun k=>((candidates g)[k]?).any (held f xs):=by
 unfold found
 rw[zFn (held f xs) (candidates g) 0]
 rw[show(fun k:Nat=>0+k)=id from funext fun k=>Nat.zero_add k,List.map_id]
noncomputable def zQ7:Verdict->Int
 | .kept=>0
 | .broken=>1
 | .off=>2
noncomputable def zFo(f i:Program)(x:Row):Option Row:=(run i x).bind (run f)
noncomputable def zE9(f o:Program)(x:Row):Option Row:=(run f x).bind (run o)
theorem zOb(f:Program)(r:Relation)(x:Row):verdict f r x=match fitsCond r.cond x,zFo f r.input x,zE9 f r.output x with
  | true,some a,some b=>if stands r.rel a b then .kept else .broken
  | _,_,_=> .off:=by
 unfold verdict sides zFo zE9
 cases fitsCond r.cond x with
 | false=>rfl
 | true=>
  simp only [Bool.not_true,Bool.false_eq_true,if_false]
  cases run f x with
  | none=>cases(run r.input x)with
   | none=>rfl
   | some u=>simp only [Option.bind_none,Option.bind_some];cases run f u <;> rfl
  | some y=>
   simp only [Option.bind_some]
   cases run r.input x with
   | none=>rfl
   | some u=>
    simp only [Option.bind_some]
    cases run f u with
    | none=>rfl
    | some v=>
     simp only [Option.bind_some]
     cases run r.output y <;> rfl
theorem vNum_kept{v:Verdict}:zQ7 v=0↔v= .kept:=by cases v <;> simp[zQ7]
theorem vNum_broken{v:Verdict}:zQ7 v=1↔v= .broken:=by cases v <;> simp[zQ7]
noncomputable def zAu(f:Program)(r:Relation)(xs:List Row):List Int:=xs.map fun x=>zQ7 (verdict f r x)
theorem zTl(f:Program)(r:Relation)(xs:List Row):held f xs r=(!decide ((1:Int)∈zAu f r xs) &&decide ((0:Int)∈zAu f r xs)):=by
 have e1:(xs.all fun x=>verdict f r x != .broken)= !decide ((1:Int)∈zAu f r xs):=by
  rw[Bool.eq_iff_iff]
  simp only [List.all_eq_true,bne_iff_ne,Bool.not_eq_true',decide_eq_false_iff_not,zAu,List.mem_map,not_exists,not_and]
  exact⟨fun h x hx e=>h x hx (vNum_broken.mp e),fun h x hx e=>h x hx (vNum_broken.mpr e)⟩
 have e2:(xs.any fun x=>verdict f r x == .kept)=decide ((0:Int)∈zAu f r xs):=by
  rw[Bool.eq_iff_iff]
  simp only [List.any_eq_true,beq_iff_eq,decide_eq_true_eq,zAu,List.mem_map]
  exact⟨fun⟨x,hx,e⟩=>⟨x,hx,vNum_kept.mpr e⟩,fun⟨x,hx,e⟩=>⟨x,hx,vNum_kept.mp e⟩⟩
 unfold held
 rw[e1,e2]
noncomputable def zTm(v:Verdict)(c:Counts):Counts:=match v with
 | .kept=>{c with kept:=c.kept+1}
 | .broken=>{c with broken:=c.broken+1}
 | .off=>{c with off:=c.off+1}
theorem zHh(f:Program)(r:Relation):∀(xs:List Row) (c:Counts),xs.foldl (fun c x=>zTm (verdict f r x) c) c=⟨c.kept+ (zAu f r xs).count 0,c.broken+ (zAu f r xs).count 1,c.off+ (zAu f r xs).count 2⟩
 | [],c=>by simp[zAu]
 | x::xs,c=>by
  rw[List.foldl_cons,zHh f r xs,show zAu f r (x::xs)=zQ7 (verdict f r x)::zAu f r xs from rfl]
  cases verdict f r x <;> simp[zQ7,zTm] <;> omega
theorem zO8(f:Program)(r:Relation)(xs:List Row):countsOf f xs r=⟨(zAu f r xs).count 0,(zAu f r xs).count 1,(zAu f r xs).count 2⟩:=by
 have e:countsOf f xs r=xs.foldl (fun c x=>zTm (verdict f r x) c) ⟨0,0,0⟩:=by
  unfold countsOf
  congr 1
 rw[e,zHh]
 simp
theorem zIe(f:Program)(r:Relation):∀xs:List Row,firstBroken f xs r=(zAu f r xs).findIdx? (· == 1)
 | xs=>by
  unfold firstBroken zAu
  rw[List.findIdx?_map]
  congr 1
  funext x
  show(verdict f r x == .broken)=(zQ7 (verdict f r x) == 1)
  cases verdict f r x <;> rfl
end Rf
namespace Rf
open VametBase Vametc
theorem zKr(r:Relation):follows r r=true:=by
 unfold follows condFollows relFollows
 simp
noncomputable def gw(c:List Relation)(n m:Nat):Bool:=match c[n]?,c[m]? with
 | some r,some q=>follows q r&& (decide (m < n) || !follows r q)
 | _,_=>false
theorem zJk{f:Program}{xs:List Row}{g:Family}{k:Nat}(h:k∈found f xs g):k < (candidates g).length:=by
 rw[zG8]at h
 exact List.mem_range.mp (List.mem_filter.mp h).1
theorem zE0(f:Program)(xs:List Row)(g:Family):(found f xs g).Pairwise (· < ·):=by
 rw[zG8]
 exact(List.pairwise_lt_range).filter _
theorem zC5{α β γ:Type}(p:β->Bool)(F:α->Option β)(G:β->γ):∀l:List α,(((l.filterMap F).filter p).map G)=l.filterMap fun a=>(F a).bind fun b=>if p b then some (G b)else none
 | []=>rfl
 | a::l=>by
  rw[List.filterMap_cons,List.filterMap_cons]
  cases h:F a with
  | none=>simpa using zC5 p F G l
  | some b=>
   simp only [Option.bind_some]
   rw[List.filter_cons]
   by_cases q:p b=true
   ·simp only [q,if_true,List.map_cons,zC5 p F G l]
   ·simp only [q,if_false,Bool.false_eq_true,zC5 p F G l]
theorem zFp{α β:Type}(p:β->Bool)(F:α->Option β):∀l:List α,(l.filterMap F).any p=l.any fun a=>(F a).any p
 | []=>rfl
 | a::l=>by
  rw[List.filterMap_cons,List.any_cons,<-zFp p F l]
  cases F a <;> simp
theorem zEd{α:Type}(p:α->Bool):∀l:List α,(l.filterMap fun a=>if p a then some a else none)=l.filter p
 | []=>rfl
 | a::l=>by
  rw[List.filterMap_cons,List.filter_cons,<-zEd p l]
  by_cases q:p a=true
  ·simp[q]
  ·simp[q]
theorem zD9{α β:Type}{F G:α->Option β}:∀{l:List α},(∀a∈l,F a=G a)->l.filterMap F=l.filterMap G
 | [],_=>rfl
 | a::l,h=>by
  rw[List.filterMap_cons,List.filterMap_cons,h a List.mem_cons_self,zD9 (l:=l) fun b hb=>h b (List.mem_cons_of_mem _ hb)]
theorem zIr{α:Type}{p q:α->Bool}:∀{l:List α},(∀a∈l,p a=q a)->l.any p=l.any q
 | [],_=>rfl
 | a::l,h=>by
  rw[List.any_cons,List.any_cons,h a List.mem_cons_self,zIr (l:=l) fun b hb=>h b (List.mem_cons_of_mem _ hb)]
theorem zCy(f:Program)(xs:List Row)(g:Family):strongFound f xs g=(found f xs g).filter fun n=>!(found f xs g).any fun m=>gw (candidates g) n m:=by
 have hlt:∀k∈found f xs g,k < (candidates g).length:=fun k h=>zJk h
 unfold strongFound strongest
 generalize found f xs g=l at hlt ⊢
 generalize candidates g=c at hlt ⊢
 dsimp only
 rw[zC5,<-zEd]
 refine zD9 fun n hn=>?_
 obtain⟨r,e1⟩:∃r,c[n]? =some r:=⟨_,List.getElem?_eq_getElem (hlt n hn)⟩
 rw[e1]
 simp only [Option.map_some,Option.bind_some]
 rw[zFp]
 have e:(l.any fun a=>((c[a]?).map fun r=>(r,a)).any fun y=>y.2 != n&& (follows y.1 r&& (!follows r y.1 || decide (y.2 < n))))=l.any fun m=>gw c n m:=by
  refine zIr fun m hm=>?_
  obtain⟨q,e2⟩:∃q,c[m]? =some q:=⟨_,List.getElem?_eq_getElem (hlt m hm)⟩
  unfold gw
  rw[e1,e2]
  simp only [Option.map_some,Option.any_some]
  by_cases z:m=n
  ·subst z
   rw[e1]at e2
   obtain rfl:=Option.some.inj e2
   simp[zKr]
  ·have zb:(m != n)=true:=by simpa using z
   rw[zb,Bool.true_and,Bool.or_comm]
 rw[e]
theorem zOc{f:Program}{xs:List Row}{g:Family}{k:Nat}(h:k∈strongFound f xs g):k < (candidates g).length:=by
 rw[zCy]at h
 exact zJk (List.mem_filter.mp h).1
theorem zHi(f:Program)(xs:List Row)(g:Family):(strongFound f xs g).Pairwise (· < ·):=by
 rw[zCy]
 exact(zE0 f xs g).filter _
noncomputable def zHj(sets:List (List Nat))(l:List Nat):List (List Nat):=sets.flatMap fun ch=>(l.filter fun n=>match ch.getLast? with | none=>true | some z=>decide (z < n)).map fun n=>ch++ [n]
theorem zCt:∀(m:Nat) (l ch:List Nat),ch∈choose m l->ch.length=m/\∀x∈ch,x∈l
 | 0,l,ch,h=>by
  simp only [choose,List.mem_singleton]at h
  subst h
  exact⟨rfl,fun _ h=>nomatch h⟩
 | m+1,[],ch,h=>by simp[choose]at h
 | m+1,x::l,ch,h=>by
  unfold choose at h
  rcases List.mem_append.mp h with h | h
  ·obtain⟨k,hk,rfl⟩:=List.mem_map.mp h
   obtain⟨h1,h2⟩:=zCt m l k hk
   refine⟨by simp[h1],fun y hy=>?_⟩
   rcases List.mem_cons.mp hy with rfl | hy
   ·exact List.mem_cons_self
   ·exact List.mem_cons_of_mem _ (h2 y hy)
  ·obtain⟨h1,h2⟩:=zCt (m+1) l ch h
   exact⟨h1,fun y hy=>List.mem_cons_of_mem _ (h2 y hy)⟩
theorem zCu(l:List Nat):choose 0 l= [[]]:=by unfold choose;rfl
theorem zIs:∀l:List Nat,choose 1 l=l.map fun n=>[n]
 | []=>rfl
 | x::l=>by
  have:choose 1 (x::l)=(choose 0 l).map (fun k=>x::k) ++choose 1 l:=rfl
  rw[this,zIs l,zCu]
  rfl
theorem zDk{α β:Type}{F G:α->List β}:∀{l:List α},(∀a∈l,F a=G a)->l.flatMap F=l.flatMap G
 | [],_=>rfl
 | a::l,h=>by
  rw[List.flatMap_cons,List.flatMap_cons,h a List.mem_cons_self,zDk (l:=l) fun b hb=>h b (List.mem_cons_of_mem _ hb)]
theorem zOd{α:Type}{p:α->Bool}{l:List α}(h:∀a∈l,p a=true):l.filter p=l:=List.filter_eq_self.mpr h
theorem zFa:∀(l:List Nat),l.Pairwise (· < ·)->∀m,zHj (choose m l) l=choose (m+1) l
 | [],_,m=>by
  cases m with
  | zero=>rw[zCu];rfl
  | succ m=>rfl
 | x::l,hp,0=>by
  rw[zIs,zCu]
  show((x::l).filter fun n=>true).map (fun n=>[] ++ [n]) ++ [] = _
  rw[List.append_nil,zOd (fun _ _=>rfl)]
  rfl
 | x::l,hp,m+1=>by
  obtain⟨hx,hl⟩:=List.pairwise_cons.mp hp
  have e1:choose (m+1) (x::l)=(choose m l).map (fun k=>x::k) ++choose (m+1) l:=rfl
  have e2:choose (m+2) (x::l)=(choose (m+1) l).map (fun k=>x::k) ++choose (m+2) l:=rfl
  rw[e1,e2]
  unfold zHj
  rw[List.flatMap_append]
  congr 1
  ·rw[List.flatMap_map,<-zFa l hl m]
   unfold zHj
   rw[List.map_flatMap]
   refine zDk fun ch hch=>?_
   obtain⟨_,hc⟩:=zCt m l ch hch
   rw[List.map_map]
   have hx0:∀z,(x::ch).getLast? =some z->x<=z:=fun z hz=>by
    have:=List.mem_of_getLast? hz
    rcases List.mem_cons.mp this with rfl | h
    ·exact Nat.le_refl _
    ·exact Nat.le_of_lt (hx z (hc z h))
   obtain⟨z,hz⟩:∃z,(x::ch).getLast? =some z:=⟨_,List.getLast?_cons⟩
   have hxz:=hx0 z hz
   rw[List.filter_cons]
   have d:(match (x::ch).getLast? with | none=>true | some z=>decide (z < x))=false:=by
    rw[hz];simpa using hxz
   rw[d,if_neg Bool.false_ne_true]
   have fe:(l.filter fun n=>match (x::ch).getLast? with | none=>true | some z=>decide (z < n))=l.filter fun n=>match ch.getLast? with | none=>true | some z=>decide (z < n):=by
    refine List.filter_congr fun n hn=>?_
    rw[List.getLast?_cons]
    cases hch2:ch.getLast? with
    | none=>
     have:x < n:=hx n hn
     simpa using this
    | some y=>simp
   rw[fe]
   rfl
  ·rw[<-zFa l hl (m+1)]
   unfold zHj
   refine zDk fun ch hch=>?_
   obtain⟨h1,hc⟩:=zCt (m+1) l ch hch
   obtain⟨z,hz⟩:∃z,ch.getLast? =some z:=by
    cases ch with
    | nil=>simp at h1
    | cons a b=>exact⟨_,List.getLast?_cons⟩
   have hxz:x < z:=hx z (hc z (List.mem_of_getLast? hz))
   rw[List.filter_cons]
   have d:(match ch.getLast? with | none=>true | some z=>decide (z < x))=false:=by
    rw[hz];simp;omega
   rw[d,if_neg Bool.false_ne_true]
theorem zF7(F:Nat->Nat):∀(m:Nat) (l:List Nat),choose m (l.map F)=(choose m l).map (List.map F)
 | 0,l=>by simp[choose]
 | m+1,[]=>rfl
 | m+1,x::l=>by
  have e1:choose (m+1) ((x::l).map F)=(choose m (l.map F)).map (fun k=>F x::k) ++choose (m+1) (l.map F):=rfl
  have e2:choose (m+1) (x::l)=(choose m l).map (fun k=>x::k) ++choose (m+1) l:=rfl
  rw[e1,e2,zF7 F m l,zF7 F (m+1) l,List.map_append,List.map_map,List.map_map]
  rfl
theorem zHk:∀l:List Nat,choose l.length l= [l]
 | []=>rfl
 | x::l=>by
  have none_:∀(l:List Nat) m,l.length < m->choose m l= []:=by
   intro l
   induction l with
   | nil=>intro m h;cases m with | zero=>cases h | succ m=>rfl
   | cons y l ih=>
    intro m h
    cases m with
    | zero=>cases h
    | succ m=>
     have e:choose (m+1) (y::l)=(choose m l).map (fun k=>y::k) ++choose (m+1) l:=rfl
     rw[List.length_cons]at h
     rw[e,ih m (by omega),ih (m+1) (by omega)]
     rfl
  have e:choose (l.length+1) (x::l)=(choose l.length l).map (fun k=>x::k) ++choose (l.length+1) l:=rfl
  show choose (l.length+1) (x::l)= _
  rw[e,zHk l,none_ l _ (Nat.lt_succ_self _)]
  rfl
noncomputable def zB1(l:List Nat)(n:Nat):List (List Nat):=(List.range (n+1)).flatMap fun m=>choose m l
theorem zGp{α β:Type}(p:β->Bool)(F:α->List β):∀l:List α,(l.flatMap F).find? p=l.findSome? fun a=>(F a).find? p
 | []=>rfl
 | a::l=>by
  rw[List.flatMap_cons,List.find?_append,List.findSome?_cons,zGp p F l]
  cases(F a).find? p <;> rfl
noncomputable def zBp(l:List Nat)(h:Nat->Bool):List Nat:=l.filter fun n=>!h n
noncomputable def zIf(ms:List (List Nat))(ch:List Nat):Bool:=(ms.filter fun m=>!m.isEmpty).all fun m=>m.any fun n=>decide (n∈ch)
theorem zIt{α:Type}{p q:α->Bool}:∀{l:List α},(∀a∈l,p a=q a)->l.all p=l.all q
 | [],_=>rfl
 | a::l,h=>by
  rw[List.all_cons,List.all_cons,h a List.mem_cons_self,zIt (l:=l) fun b hb=>h b (List.mem_cons_of_mem _ hb)]
theorem zHl{α:Type}(p q:α->Bool):∀l:List α,(l.filter p).all q=l.all fun a=>!p a || q a
 | []=>rfl
 | a::l=>by
  rw[List.filter_cons,List.all_cons,<-zHl p q l]
  by_cases h:p a=true
  ·simp[h]
  ·simp[h]
theorem zO9(l:List Nat)(hd:l.Nodup)(hs:List (Nat->Bool))(k:List Nat)(hk:∀i∈k,i < l.length):sees (hs.map fun h=>l.map h) k=zIf (hs.map (zBp l)) (k.map fun i=>l.getD i 0):=by
 unfold sees zIf
 rw[List.all_map,zHl,List.all_map]
 refine zIt fun h _=>?_
 simp only [Function.comp]
 rw[Bool.not_not,Bool.eq_iff_iff,Bool.or_eq_true,Bool.or_eq_true]
 have a1:((l.map h).all fun b=>b)=true↔(zBp l h).isEmpty=true:=by
  unfold zBp
  rw[List.all_map,List.all_eq_true,List.isEmpty_iff,List.filter_eq_nil_iff]
  constructor
  ·intro q n hn;have:=q n hn;simp only [Function.comp]at this;simp[this]
  ·intro q n hn;have:=q n hn;simp only [Function.comp];simpa using this
 have a2:(k.any fun i=>!((l.map h)[i]?).getD true)=true↔((zBp l h).any fun n=>decide (n∈k.map fun i=>l.getD i 0))=true:=by
  unfold zBp
  rw[List.any_eq_true,List.any_eq_true]
  constructor
  ·rintro⟨i,hi,q⟩
   have hl:=hk i hi
   rw[List.getElem?_map,List.getElem?_eq_getElem hl]at q
   refine⟨l[i],List.mem_filter.mpr ⟨List.getElem_mem hl,by simpa using q⟩,?_⟩
   rw[decide_eq_true_iff]
   exact List.mem_map.mpr ⟨i,hi,by simp[List.getD,List.getElem?_eq_getElem hl]⟩
  ·rintro⟨n,hn,q⟩
   obtain⟨hn1,hn2⟩:=List.mem_filter.mp hn
   obtain⟨i,hi,e⟩:=List.mem_map.mp (of_decide_eq_true q)
   have hl:=hk i hi
   refine⟨i,hi,?_⟩
   rw[List.getElem?_map,List.getElem?_eq_getElem hl]
   have e':l[i] =n:=by simpa [List.getD,List.getElem?_eq_getElem hl]using e
   rw[e']
   simpa using hn2
 rw[a1,a2]
theorem zKs(l:List Nat):l=(List.range l.length).map fun i=>l.getD i 0:=by
 refine List.ext_getElem? fun i=>?_
 rw[List.getElem?_map]
 by_cases h:i < l.length
 ·rw[List.getElem?_eq_getElem h,List.getElem?_range h]
  simp[List.getD,List.getElem?_eq_getElem h]
 ·rw[List.getElem?_eq_none (by omega),List.getElem?_eq_none (by rw[List.length_range];omega)]
  rfl
theorem zE1(l:List Nat):∀k:List Nat,(∀i∈k,i < l.length)->(k.filterMap fun i=>l[i]?)=k.map fun i=>l.getD i 0
 | [],_=>rfl
 | i::k,h=>by
  have hl:=h i List.mem_cons_self
  rw[List.filterMap_cons,List.getElem?_eq_getElem hl,List.map_cons,zE1 l k fun j hj=>h j (List.mem_cons_of_mem _ hj)]
  simp[List.getD,List.getElem?_eq_getElem hl]
theorem zKt(l:List Nat)(hp:l.Pairwise (· < ·))(hs:List (Nat->Bool)):(zB1 l l.length).find? (zIf (hs.map (zBp l)))=some ((leastBy (hs.map fun h=>l.map h) l.length).filterMap fun i=>l[i]?):=by
 have hd:l.Nodup:=hp.imp fun h=>Nat.ne_of_lt h
 have step:∀m,(choose m l).find? (zIf (hs.map (zBp l)))=((choose m (List.range l.length)).find? (sees (hs.map fun h=>l.map h))).map fun k=>k.filterMap fun i=>l[i]? :=by
  intro m
  have e:choose m l=(choose m (List.range l.length)).map (List.map fun i=>l.getD i 0):=by
   rw[<-zF7,<-zKs]
  rw[e,List.find?_map]
  have mem:∀k∈choose m (List.range l.length),∀i∈k,i < l.length:=fun k hk i hi=>List.mem_range.mp ((zCt m _ k hk).2 i hi)
  generalize choose m (List.range l.length)=cs at mem
  induction cs with
  | nil=>rfl
  | cons k cs ih=>
   have hk:=mem k List.mem_cons_self
   rw[List.find?_cons,List.find?_cons,zO9 l hd hs k hk]
   simp only [Function.comp]
   cases zIf (hs.map (zBp l)) (k.map fun i=>l.getD i 0)with
   | true=>simp[zE1 l k hk]
   | false=>exact ih fun q hq=>mem q (List.mem_cons_of_mem _ hq)
 unfold zB1 leastBy
 rw[zGp]
 have fs:∀ns:List Nat,(ns.findSome? fun m=>(choose m l).find? (zIf (hs.map (zBp l))))=(ns.findSome? fun m=>(choose m (List.range l.length)).find? (sees (hs.map fun h=>l.map h))).map fun k=>k.filterMap fun i=>l[i]? :=by
  intro ns
  induction ns with
  | nil=>rfl
  | cons m ns ih=>
   rw[List.findSome?_cons,List.findSome?_cons,step m,ih]
   cases(choose m (List.range l.length)).find? (sees (hs.map fun h=>l.map h)) <;> rfl
 rw[fs]
 have ex:∃k,((List.range (l.length+1)).findSome? fun m=>(choose m (List.range l.length)).find? (sees (hs.map fun h=>l.map h)))=some k:=by
  cases q:(List.range (l.length+1)).findSome? fun m=>(choose m (List.range l.length)).find? (sees (hs.map fun h=>l.map h))with
  | some k=>exact⟨k,rfl⟩
  | none=>
   exfalso
   rw[List.findSome?_eq_none_iff]at q
   have q1:=q l.length (List.mem_range.mpr (Nat.lt_succ_self _))
   have full:=zHk (List.range l.length)
   rw[List.length_range]at full
   rw[full,List.find?_cons]at q1
   have:sees (hs.map fun h=>l.map h) (List.range l.length)=true:=by
    rw[zO9 l hd hs _ fun i hi=>List.mem_range.mp hi,<-zKs]
    unfold zIf
    rw[List.all_eq_true]
    intro m hm
    obtain⟨h1,h2⟩:=List.mem_filter.mp hm
    obtain⟨h,_,rfl⟩:=List.mem_map.mp h1
    cases e:zBp l h with
    | nil=>rw[e]at h2;simp at h2
    | cons a b=>
     rw[List.any_eq_true]
     refine⟨a,List.mem_cons_self,decide_eq_true ?_⟩
     have:a∈zBp l h:=by rw[e];exact List.mem_cons_self
     exact(List.mem_filter.mp this).1
   rw[this]at q1
   cases q1
 obtain⟨k,hk⟩:=ex
 rw[hk]
 rfl
end Rf
set_option Elab.async false
set_option linter.all false
set_option maxRecDepth 100000
namespace L2
open PySem PySem.Spec PyProof.Rows
noncomputable abbrev Key:=Sum Int Str
noncomputable def zKu:Key->Value->Bool
 | .inl k,v=>Value.isInt k v
 | .inr x,v=>Value.isStrOf x v
noncomputable def yBv(w:World):Key->Int
 | .inl k=>hashInt k
 | .inr x=>hashStr w x
theorem zBl:∀{k:Key} {v:Value},zKu k v=true->(∃i t,k=Sum.inl i/\v=Value.int i t)\/(∃x t,k=Sum.inr x/\v=Value.str x t)
 | .inl i,v,h=>by
  obtain⟨t,e⟩:=Value.isInt_shape (k:=i) (v:=v) h
  exact .inl ⟨i,t,rfl,e⟩
 | .inr x,v,h=>by
  obtain⟨t,e⟩:=Value.isStrOf_shape (x:=x) (v:=v) h
  exact .inr ⟨x,t,rfl,e⟩
theorem zPa(i:Int)(t:Tok):zKu (.inl i) (.int i t)=true:=by simp[zKu,Value.isInt]
theorem zPb(x:Str)(t:Tok):zKu (.inr x) (.str x t)=true:=by simp[zKu,Value.isStrOf]
theorem zVf(a b:Int):decide ((Sum.inl a:Key)=Sum.inl b)=(a == b):=by
 by_cases e:a=b
 ·subst e;simp
 ·have h:¬(Sum.inl a:Key)=Sum.inl b:=fun q=>e (Sum.inl.inj q)
  rw[decide_eq_false h]
  exact(beq_eq_false_iff_ne.mpr e).symm
theorem zVg(a b:Str):decide ((Sum.inr a:Key)=Sum.inr b)=decide (a=b):=by
 by_cases e:a=b
 ·subst e;simp
 ·have h:¬(Sum.inr a:Key)=Sum.inr b:=fun q=>e (Sum.inr.inj q)
  rw[decide_eq_false h,decide_eq_false e]
theorem zVh(a:Int)(b:Str):decide ((Sum.inl a:Key)=Sum.inr b)=false:=decide_eq_false (fun q=>nomatch q)
theorem zVi(a:Str)(b:Int):decide ((Sum.inr a:Key)=Sum.inl b)=false:=decide_eq_false (fun q=>nomatch q)
noncomputable def zBm(prog:Program)(w:World):PySem.KeyKind prog w Key where
 is:=zKu
 hash:=yBv w
 inj:=fun v a b ha hb=>by
  rcases zBl ha with⟨i,t,rfl,rfl⟩ | ⟨x,t,rfl,rfl⟩
  ·rcases zBl hb with⟨j,u,rfl,e⟩ | ⟨y,u,rfl,e⟩
   ·injection e with e1 _;rw[e1]
   ·exact nomatch e
  ·rcases zBl hb with⟨j,u,rfl,e⟩ | ⟨y,u,rfl,e⟩
   ·exact nomatch e
   ·injection e with e1 _;rw[e1]
 byValue:=fun k v h=>by
  rcases zBl h with⟨i,t,rfl,rfl⟩ | ⟨x,t,rfl,rfl⟩ <;> rfl
 pyHash:=fun hv h=>by
  rcases zBl hv with⟨i,t,rfl,rfl⟩ | ⟨x,t,rfl,rfl⟩
  ·exact wpAny_pyHash_int h
  ·exact wpAny_pyHash_str h
 eqBool:=fun hu hv h=>by
  rcases zBl hu with⟨i,t,rfl,rfl⟩ | ⟨x,t,rfl,rfl⟩
  ·rcases zBl hv with⟨j,u,rfl,rfl⟩ | ⟨y,u,rfl,rfl⟩
   ·rw[zVf]at h;exact wpAny_eqBool_int h
   ·rw[zVh]at h;exact SeqAt.EqAt.int_str i t y u _ _ _ _ h
  ·rcases zBl hv with⟨j,u,rfl,rfl⟩ | ⟨y,u,rfl,rfl⟩
   ·rw[zVi]at h;exact SeqAt.EqAt.str_int x t j u _ _ _ _ h
   ·rw[zVg]at h;exact wpAny_eqBool_str h
 «strs» :=fun k x t v h=>by
  rcases zBl h with⟨i,u,rfl,e⟩ | ⟨y,u,rfl,e⟩
  ·exact nomatch e
  ·injection e with e1 _
   subst e1
   cases v <;> rfl
theorem zMc(prog:Program)(w:World)(i:Int)(t:Tok):(zBm prog w).is (.inl i) (.int i t)=true:=zPa i t
theorem zMd(prog:Program)(w:World)(x:Str)(t:Tok):(zBm prog w).is (.inr x) (.str x t)=true:=zPb x t
end L2
namespace L2
open PySem PySem.Spec PyProof.Rows
inductive V where
 | non | bl (b:Bool) | int (i:Int) | str (x:Str) | byt (b:Array UInt8) | flt (b:UInt64) | ref (a:Addr) | ty (n:String)
 deriving DecidableEq
noncomputable def RelV:V->Value->Prop
 | .non,u=>u=Value.none
 | .bl b,u=>u=Value.bool b
 | .int i,u=>∃t,u=Value.int i t
 | .str x,u=>∃t,u=Value.str x t
 | .byt b,u=>∃t,u=Value.bytes b t
 | .flt b,u=>∃t,u=Value.float b t
 | .ref a,u=>u=Value.ref a
 | .ty n,u=>u=Value.type n
noncomputable abbrev Vals:List V->List Value->Prop:=Paired RelV
theorem Vals.length{xs:List V}{us:List Value}(r:Vals xs us):xs.length=us.length:=Paired.length r
theorem Vals.get:∀{xs:List V} {us:List Value} {i:Nat} {x:V},Vals xs us->xs[i]? =some x->∃u,us[i]? =some u/\RelV x u
 | _,_,_,_,.nil,e=>by simp at e
 | _,_,0,_,.cons r _,e=>by simp at e;subst e;exact⟨_,rfl,r⟩
 | _,_,i+1,x,.cons _ t,e=>by
  obtain⟨u,h1,h2⟩:=Vals.get (i:=i) (x:=x) t (by simpa using e)
  exact⟨u,by simpa using h1,h2⟩
theorem Vals.append:∀{xs ys:List V} {us ws:List Value},Vals xs us->Vals ys ws->Vals (xs++ys) (us++ws)
 | _,_,_,_,.nil,s=>s
 | _,_,_,_,.cons r t,s=> .cons r (Vals.append t s)
theorem Vals.take:∀{xs:List V} {us:List Value} (n:Nat),Vals xs us->Vals (xs.take n) (us.take n)
 | _,_,0,_=> .nil
 | _,_,_+1,.nil=> .nil
 | _,_,n+1,.cons r t=> .cons r (Vals.take n t)
theorem Vals.drop:∀{xs:List V} {us:List Value} (n:Nat),Vals xs us->Vals (xs.drop n) (us.drop n)
 | _,_,0,r=>r
 | _,_,_+1,.nil=> .nil
 | _,_,n+1,.cons _ t=>Vals.drop n t
noncomputable def RelO:Option V->Option Value->Prop
 | some v,some u=>RelV v u
 | none,none=>True
 | _,_=>False
noncomputable def KV{κ:Type}:List (κ×V)->List (κ×Value)->Prop:=Paired fun(p:κ×V) (q:κ×Value)=>p.1=q.1/\RelV p.2 q.2
noncomputable def kV:Key->V
 | .inl i=> .int i
 | .inr x=> .str x
inductive HO where
 | lst (xs:List V)
 | tup (xs:List V)
 | dK (kvs:List (Key×V)) | dT (kvs:List (List Key×V))
 | set (S:Int->Bool) (n:Nat)
 | ins (C dx:Addr) (fs:List (Str×V))
 | own (x:Addr)
 | xd (fs:List (Str×V))
 | met (f x:Addr)
 | rng (lo hi:Int)
 | frz (o:Obj) (u:HO)
 | tbl (ps:Array Value)
 | ext (φ:Heap->Prop)
noncomputable abbrev Hp:=Addr->Option HO
noncomputable def upd(H:Hp)(a:Addr)(o:HO):Hp:=fun b=>if b=a then some o else H b
theorem zAb{H:Hp}{a:Addr}{o:HO}:upd H a o a=some o:=by unfold upd;rw[if_pos rfl]
theorem zAj{H:Hp}{a b:Addr}{o:HO}(h:b≠a):upd H a o b=H b:=by unfold upd;rw[if_neg h]
theorem zBh{H:Hp}{a:Addr}{o u:HO}:upd (upd H a o) a u=upd H a u:=by
 funext b;unfold upd;split <;> rfl
theorem zEw{H:Hp}{a b:Addr}{o u:HO}(h:H a=some o)(h':H b=some u)(d:o≠u):a≠b:=by
 intro e;subst e;rw[h]at h';exact d (Option.some.inj h')
theorem zAo{H:Hp}{a b:Addr}{o:HO}(h:H a=some o)(h':H b=none):a≠b:=by
 intro e;subst e;rw[h]at h';cases h'
section
variable (P:Program) (w:World)
noncomputable def ObjOk(H:Hp)(h:Heap)(a:Addr):HO->Prop
 | .lst xs=>xs.length<=sizeLine/\∃(its:List Value) (n:Nat),Vals xs its/\h.get? a=some {cls:= .type "list",data:= .seq its.toArray n}
 | .tup xs=>xs.length<=sizeLine/\∃its:List Value,Vals xs its/\IsTup h a its.toArray
 | .dK kvs=>kvs.length<=sizeLine/\(a == sysModules)=false/\∃vs,KV kvs vs/\h.DictOf (zBm P w) a vs
 | .dT kvs=>kvs.length<=sizeLine/\(a == sysModules)=false/\∃xs:List (List Key×Addr×Value),
   Paired (fun(p:List Key×V) (q:List Key×Addr×Value)=>p.1=q.1/\H q.2.1=some (.tup (p.1.map kV))/\RelV p.2 q.2.2) kvs xs/\
   ∃o es ep,h.get? a=some o/\o.ExactDict/\o.data= .dict es ep/\es.toList=xs.map (entryOfKey (tupleKind (zBm P w)))/\(xs.map (·.1)).Nodup
 | .set S n=>h.SetOf (intKind P w) a S n
 | .ins C dx fs=>H dx=some (.own a)/\fs.length<=1000/\dx≠a/\h.get? a=some (PySem.W.instObj C dx)/\
   ∃mA,h.Ns1 dx mA/\(∀f,RelO (fs.lookup f) (mA f))/\PySem.Within mA (fs.map (·.1))
 | .own _=>∃o,h.get? a=some o
 | .xd fs=>∃mA,h.Ns1 a mA/\∀f,RelO (fs.lookup f) (mA f)
 | .rng lo hi=>∃t u v,h.get? a=some {cls:= .type "range",data:= .fields #[.int lo t,.int hi u,.int 1 v]}
 | .frz o u=>h.get? a=some o/\ObjOk H h a u
 | .tbl ps=>h.get? a=some {cls:= .none,data:= .fields ps}
 | .met f x=>h.get? a=some (PySem.W.methodObj (.ref f) (.ref x))
 | .ext φ=>φ h/\(∃o,h.get? a=some o)/\∀h1 h2:Heap,φ h1->(∀o,h1.get? a=some o->h2.get? a=some o)->φ h2
noncomputable def HOk(H:Hp)(h:Heap):Prop:=∀a o,H a=some o->ObjOk P w H h a o
end
section
variable {P:Program} {w:World} {H H':Hp} {h h':Heap} {a:Addr} {o:HO}
theorem ObjOk.lt(x:ObjOk P w H h a o):a < h.objs.size:=by
 cases o with
 | lst xs=>obtain⟨_,_,_,_,e⟩:=x;exact Heap.lt_size e
 | tup xs=>obtain⟨_,_,_,p⟩:=x;exact p.lt
 | dK kvs=>obtain⟨_,_,_,_,o,_,_,e,_⟩:=x;exact Heap.lt_size e
 | dT kvs=>obtain⟨_,_,_,_,o,_,_,e,_⟩:=x;exact Heap.lt_size e
 | set S n=>obtain⟨o,_,_,_,e,_⟩:=x;exact Heap.lt_size e
 | ins C dx fs=>obtain⟨_,_,_,e,_⟩:=x;exact Heap.lt_size e
 | own y=>obtain⟨_,e⟩:=x;exact Heap.lt_size e
 | xd fs=>obtain⟨_,⟨_,_,_,e,_⟩,_⟩:=x;exact Heap.lt_size e
 | rng lo hi=>obtain⟨_,_,_,e⟩:=x;exact Heap.lt_size e
 | frz ob u=>obtain⟨e,_⟩:=x;exact Heap.lt_size e
 | tbl ps=>exact Heap.lt_size (show h.get? a=some _ from x)
 | met f y=>exact Heap.lt_size (show h.get? a=some _ from x)
 | ext φ=>obtain⟨_,⟨_,e⟩,_⟩:=x;exact Heap.lt_size e
theorem Paired.mapP{α β:Type}{F G:α->β->Prop}:∀{l₁:List α} {l₂:List β},Paired F l₁ l₂->(∀a b,F a b->G a b)->Paired G l₁ l₂
 | _,_,.nil,_=> .nil
 | _,_,.cons r t,f=> .cons (f _ _ r) (Paired.mapP t f)
theorem ObjOk.stay(x:ObjOk P w H h a o)(k:∀b u,(b=a\/H b=some (.own a))->h.get? b=some u->h'.get? b=some u)
  (ho:∀b,H b=some (.own a)->H' b=some (.own a)) (ht:∀b xs,H b=some (.tup xs)->H' b=some (.tup xs)):ObjOk P w H' h' a o:=by
 induction o with
 | lst xs=>obtain⟨z,its,n,r,e⟩:=x;exact⟨z,its,n,r,k _ _ (.inl rfl) e⟩
 | tup xs=>obtain⟨z,its,r,ob,e,c⟩:=x;exact⟨z,its,r,ob,k _ _ (.inl rfl) e,c⟩
 | dK kvs=>obtain⟨z,y,vs,r,ob,es,ep,e,c⟩:=x;exact⟨z,y,vs,r,ob,es,ep,k _ _ (.inl rfl) e,c⟩
 | dT kvs=>
  obtain⟨z,y,xs,r,ob,es,ep,e,c⟩:=x
  exact⟨z,y,xs,Paired.mapP r fun p q z=>⟨z.1,ht _ _ z.2.1,z.2.2⟩,ob,es,ep,k _ _ (.inl rfl) e,c⟩
 | set S n=>obtain⟨ob,es,ep,t,e,c⟩:=x;exact⟨ob,es,ep,t,k _ _ (.inl rfl) e,c⟩
 | ins C dx fs=>
  obtain⟨d,z,ne,e,mA,⟨od,es,ep,e2,c⟩,r⟩:=x
  exact⟨ho _ d,z,ne,k _ _ (.inl rfl) e,mA,⟨od,es,ep,k _ _ (.inr d) e2,c⟩,r⟩
 | own y=>obtain⟨ob,e⟩:=x;exact⟨ob,k _ _ (.inl rfl) e⟩
 | xd fs=>obtain⟨mA,⟨od,es,ep,e,c⟩,r⟩:=x;exact⟨mA,⟨od,es,ep,k _ _ (.inl rfl) e,c⟩,r⟩
 | rng lo hi=>obtain⟨t,u,v,e⟩:=x;exact⟨t,u,v,k _ _ (.inl rfl) e⟩
 | frz ob u ih=>obtain⟨e,q⟩:=x;exact⟨k _ _ (.inl rfl) e,ih q⟩
 | tbl ps=>
  have e:h.get? a=some {cls:= .none,data:= .fields ps}:=x
  show h'.get? a=some {cls:= .none,data:= .fields ps}
  exact k a _ (.inl rfl) e
 | met f y=>
  have e:h.get? a=some (PySem.W.methodObj (.ref f) (.ref y)):=x
  show h'.get? a=some (PySem.W.methodObj (.ref f) (.ref y))
  exact k a _ (.inl rfl) e
 | ext φ=>obtain⟨p,⟨o,e⟩,st⟩:=x;exact⟨st _ _ p fun o q=>k _ _ (.inl rfl) q,⟨o,k _ _ (.inl rfl) e⟩,st⟩
theorem HOk.lt(x:HOk P w H h)(e:H a=some o):a < h.objs.size:=(x a o e).lt
theorem HOk.fresh(x:HOk P w H h)(e:h.objs.size<=a):H a=none:=by
 cases q:H a with
 | none=>rfl
 | some u=>exact absurd (Nat.lt_of_lt_of_le (x.lt q) e) (Nat.lt_irrefl _)
theorem HOk.kept(x:HOk P w H h)(k:∀b u,h.get? b=some u->h'.get? b=some u):HOk P w H h':=fun a o e=>
 (x a o e).stay (fun b u _ q=>k b u q) (fun _ q=>q) fun _ _ q=>q
theorem HOk.laid(x:HOk P w H h)(k:∀b u,h.get? b=some u->h'.get? b=some u)(hp:h.objs.size<=a)(new:ObjOk P w (upd H a o) h' a o):HOk P w (upd H a o) h':=fun b u e=>by
 have hn:=x.fresh hp
 by_cases hb:b=a
 ·subst hb;rw[zAb]at e;cases e;exact new
 ·rw[zAj hb]at e
  exact(x b u e).stay (fun c v _ q=>k c v q) (fun c q=>by rw[zAj (zAo q hn)];exact q) fun c xs q=>by rw[zAj (zAo q hn)];exact q
end
noncomputable def Rd(H:Hp)(a:Addr)(u:HO):Prop:=H a=some u\/∃o,H a=some (.frz o u)
theorem Rd.ok{P:Program}{w:World}{H:Hp}{h:Heap}{a:Addr}{u:HO}(r:Rd H a u)(x:HOk P w H h):ObjOk P w H h a u:=by
 rcases r with r | ⟨o,r⟩
 ·exact x a u r
 ·obtain⟨_,q⟩:=x a _ r
  exact q
noncomputable def Mut:Option HO->Prop
 | some (.lst _)=>True
 | some (.dK _)=>True
 | some (.dT _)=>True
 | some (.set _ _)=>True
 | some (.ins _ _ _)=>True
 | some (.ext _)=>True
 | _=>False
section
variable {P:Program} {w:World} {H:Hp} {h h':Heap} {x e:Addr} {o':HO}
theorem HOk.write(ok:HOk P w H h)(mu:Mut (H x))(he:e=x\/H e=some (.own x))(k:∀b u,b≠e->h.get? b=some u->h'.get? b=some u)(heo:∃u,h'.get? e=some u)
  (new:ObjOk P w (upd H x o') h' x o'):HOk P w (upd H x o') h':=fun b u q=>by
 have nown:∀c y,H c=some (.own y)->c≠x:=fun c y r z=>by subst z;rw[r]at mu;exact mu
 have ntup:∀c xs,H c=some (.tup xs)->c≠x:=fun c xs r z=>by subst z;rw[r]at mu;exact mu
 by_cases hb:b=x
 ·subst hb;rw[zAb]at q;cases q;exact new
 ·rw[zAj hb]at q
  by_cases hbe:b=e
  ·have q':H b=some (.own x):=by
    rcases he with z | z
    ·exact absurd (hbe.trans z) hb
    ·rw[hbe];exact z
   rw[q]at q';cases q'
   obtain⟨v,hv⟩:=heo
   exact⟨v,by rw[hbe];exact hv⟩
  ·refine(ok b u q).stay (fun c v hc r=>k c v ?_ r) (fun c r=>by rw[zAj (nown c b r)];exact r) fun c xs r=>by rw[zAj (ntup c xs r)];exact r
   rcases hc with rfl | hc
   ·exact hbe
   ·rintro rfl
    rcases he with z | z
    ·exact nown c b hc z
    ·rw[hc]at z;cases z;exact hb rfl
end
structure Un(fs ex:List Addr)(H H':Hp)(h h':Heap):Prop where
 keep:∀b o,h.get? b=some o->H b=none->b∉fs->b∉ex->h'.get? b=some o
 slot:∀b o,h.get? b=some o->H b=none->b∈fs->b∉ex->∃sl,h'.get? b=some {o with slots:=sl}
 free:∀b o,h.get? b=some o->H b=none->b∉ex->H' b=none
 there:∀b o,h.get? b=some o->b∉ex->∃o',h'.get? b=some o'
 tups:∀b xs,H b=some (.tup xs)->H' b=some (.tup xs)
 frzs:∀b o u,H b=some (.frz o u)->H' b=some (.frz o u)
 tbls:∀b ps,H b=some (.tbl ps)->∃more,H' b=some (.tbl (ps++more))
section
variable {fs fs' ex ex':List Addr} {H H1 H2:Hp} {h h1 h2 h':Heap} {a x e:Addr} {o:HO}
theorem Un.any(u:Un fs ex H H1 h h1){b:Addr}{ob:Obj}(q:h.get? b=some ob)(n:H b=none)(hx:b∉ex):∃sl,h1.get? b=some {ob with slots:=sl}:=by
 by_cases hb:b∈fs
 ·exact u.slot b ob q n hb hx
 ·exact⟨ob.slots,u.keep b ob q n hb hx⟩
theorem Un.kept(k:∀b u,h.get? b=some u->h'.get? b=some u):Un fs ex H H h h':=
 ⟨fun b ob q _ _ _=>k b ob q,fun b ob q _ _ _=>⟨ob.slots,k b ob q⟩,fun _ _ _ n _=>n,fun b ob q _=>⟨ob,k b ob q⟩,fun _ _ q=>q,fun _ _ _ q=>q,fun _ ps q=>⟨#[],by rw[q];simp⟩⟩
theorem Un.refl:Un fs ex H H h h:=Un.kept fun _ _ q=>q
theorem Un.laid(k:∀b u,h.get? b=some u->h'.get? b=some u)(hp:h.objs.size<=a)(hn:H a=none):Un fs ex H (upd H a o) h h' where
 keep:=fun b u q _ _ _=>k b u q
 slot:=fun b u q _ _ _=>⟨u.slots,k b u q⟩
 free:=fun b u q n _=>by rw[zAj (Nat.ne_of_lt (Nat.lt_of_lt_of_le (Heap.lt_size q) hp))];exact n
 there:=fun b u q _=>⟨u,k b u q⟩
 tups:=fun b xs q=>by rw[zAj (zAo q hn)];exact q
 frzs:=fun b u xs q=>by rw[zAj (zAo q hn)];exact q
 tbls:=fun b ps q=>⟨#[],by rw[zAj (zAo q hn),q];simp⟩
theorem Un.write(mu:Mut (H x))(he:e=x\/H e=some (.own x))(k:∀b u,b≠e->h.get? b=some u->h'.get? b=some u)(heo:∃u,h'.get? e=some u):Un fs ex H (upd H x o) h h':=by
 have hx:∀b,H b=none->b≠x:=fun b n z=>by subst z;rw[n]at mu;exact mu
 have hb:∀b,H b=none->b≠e:=fun b n z=>by
  subst z
  rcases he with r | r
  ·exact hx b n r
  ·rw[n]at r;cases r
 have hm:∀b u,H b=some u->¬Mut (some u)->b≠x:=fun b u q nm z=>by subst z;rw[q]at mu;exact nm mu
 refine⟨fun b u q n _ _=>k b u (hb b n) q,fun b u q n _ _=>⟨u.slots,k b u (hb b n) q⟩,fun b u q n _=>by rw[zAj (hx b n)];exact n,fun b u q _=>?_,
  fun b xs q=>by rw[zAj (hm b _ q fun z=>z)];exact q,fun b u xs q=>by rw[zAj (hm b _ q fun z=>z)];exact q,fun b ps q=>⟨#[],by rw[zAj (hm b _ q fun z=>z),q];simp⟩⟩
 by_cases hbe:b=e
 ·subst hbe;exact heo
 ·exact⟨u,k b u hbe q⟩
end
noncomputable def trk(h:Heap)(H:Hp):List Addr:=(List.range h.objs.size).filter fun a=>(H a).isSome
noncomputable def zRd(h:Heap)(H:Hp):Heap:=PySem.W.hideAll h (trk h H)
theorem zPc(h:Heap)(H:Hp):(zRd h H).objs.size=h.objs.size:=PySem.W.hideAll_size _ _
theorem zRe{h:Heap}{H:Hp}{b:Addr}{o:Obj}(e:h.get? b=some o)(n:H b=none):(zRd h H).get? b=some o:=
 PySem.W.hideAll_get _ e fun hm=>by
  have q:(H b).isSome=true:=(List.mem_filter.mp hm).2
  rw[n]at q;simp at q
theorem zTn{h:Heap}{H:Hp}{b:Addr}{o:Obj}(e:(zRd h H).get? b=some o):h.get? b=some o/\H b=none:=by
 have e':h.get? b=some o:=PySem.W.of_hideAll (trk h H) e
 refine⟨e',?_⟩
 cases q:H b with
 | none=>rfl
 | some x=>
  have hm:b∈trk h H:=List.mem_filter.mpr ⟨List.mem_range.mpr (Heap.lt_size e'),by simp[q]⟩
  have z:(zRd h H).get? b=none:=PySem.W.hideAll_none (trk h H) hm
  rw[z]at e;cases e
end L2
namespace L2
open PySem PySem.Spec PyProof.Rows
structure Mod(K:PySem.W.Frag)(mg:Str->Option Value)(base:Heap):Prop where
 kin:K.In base
 glob:base.Ns mainGlobals mg
 blt:∃mb,base.Ns builtinsNs mb/\∀x:Str,x≠"__name__"->mb x=bootBuiltins x
 nolimit:base.NoLimit
structure Cx where
 prog:Program
 w:World
 K:PySem.W.Frag
 mg:Str->Option Value
 base:Heap
 A:Around
 N:List Str
 s_0:Shared
 H_0:Hp
 env:Env
 outer:List Env
 stack:List Env
 ex:List Addr
 fn:Str->Bool
 calm:Bool
 pn:List (Addr×Obj)
 xe:Value->Shared->Prop
noncomputable def frs(l:List Env):List Addr:=l.filterMap (·.frame)
noncomputable abbrev Cx.fs(X:Cx):List Addr:=frs X.outer
noncomputable def Vis(sc:Scope)(x:Str):Prop:=sc.names.lookup x=some .local\/sc.names.lookup x=some .cell\/sc.names.lookup x=some .free
noncomputable def Loc(sc:Scope)(x:Str):Prop:=sc.names.lookup x=some .local\/sc.names.lookup x=some .cell
noncomputable def yBw(env:Env)(h:Heap)(m:Str->Option Value)(x:Str)(u:Value):Prop:=
 (env.kindOf x=some .local/\m x=some u)\/((env.kindOf x=some .cell\/env.kindOf x=some .free)/\∃c,env.cells.lookup x=some c/\h.IsCell c (some u))
structure Cx.Ok(X:Cx):Prop where
 mod:Mod X.K X.mg X.base
 kind:X.env.scope.kind= .function
 glob:X.env.globals=mainGlobals
 blt:X.env.builtins=builtinsNs
 above:X.s_0.heap.objs.size<=X.env.locals
 inj:∀x y c,X.env.cells.lookup x=some c->X.env.cells.lookup y=some c->x=y
 has:∀x,(X.env.kindOf x=some .cell\/X.env.kindOf x=some .free)->∃c,X.env.cells.lookup x=some c
 cab:∀x c,X.fn x=true->X.env.cells.lookup x=some c->X.s_0.heap.objs.size<=c
 hd:X.calm=true->X.A.handled=none
 frames:X.A.frames=some X.stack
 stk:X.stack=X.outer\/(X.stack=X.env::X.outer/\X.env.frame=some X.env.locals)
 exf:∀b∈X.ex,b≠X.env.locals/\∀x c,X.env.cells.lookup x=some c->c≠b
 bs:∀b o,X.base.get? b=some o->X.s_0.heap.get? b=some o/\X.H_0 b=none
 bsz:X.base.objs.size<=X.s_0.heap.objs.size
 noex:∀b o,X.base.get? b=some o->b∉X.ex
 exfs:∀b∈X.ex,b∉X.fs
 funs:X.s_0.heap.FunFrames X.base X.outer
 frf:∀b∈X.fs,X.H_0 b=none
structure Inv(X:Cx)(pins:List (Addr×Obj))(σ:List (Option V))(H:Hp)(s:Shared):Prop where
 ok:X.Ok
 os:s.os=X.s_0.os
 bare:AllBare s.gens
 base:Un X.fs X.ex X.H_0 H X.s_0.heap s.heap
 loc:∃m,s.heap.Ns X.env.locals m/\∀(i:Nat) (x:Str) (v:V),X.N[i]? =some x->σ[i]? =some (some v)->Vis X.env.scope x->∃u,RelV v u/\yBw X.env s.heap m x u
 cell:∀x c,X.env.cells.lookup x=some c->∃v,s.heap.IsCell c v
 free:H X.env.locals=none
 freeC:∀x c,X.env.cells.lookup x=some c->H c=none
 pin:∀p∈X.pn++pins,s.heap.get? p.1=some p.2/\H p.1=none/\p.1≠X.env.locals/\p.1∉X.fs/\∀v,p.2.data≠.cell v
 hok:HOk X.prog X.w H s.heap
 len:σ.length=X.N.length
section
variable {X:Cx} {pins:List (Addr×Obj)} {σ:List (Option V)} {H H':Hp} {s:Shared} {h':Heap}
theorem Cx.Ok.nofr(ok:X.Ok){b:Addr}{o:Obj}(e:X.base.get? b=some o):b∉X.fs:=fun hb=>by
 have:=(ok.funs.mem hb).1
 rw[e]at this;cases this
theorem Inv.bs(I:Inv X pins σ H s):∀b o,X.base.get? b=some o->s.heap.get? b=some o/\H b=none:=fun b o e=>
 ⟨I.base.keep b o (I.ok.bs b o e).1 (I.ok.bs b o e).2 (I.ok.nofr e) (I.ok.noex b o e),I.base.free b o (I.ok.bs b o e).1 (I.ok.bs b o e).2 (I.ok.noex b o e)⟩
theorem Inv.bk(I:Inv X pins σ H s):∀b o,X.base.get? b=some o->s.heap.get? b=some o:=fun b o e=>(I.bs b o e).1
theorem Inv.mod(I:Inv X pins σ H s):Mod X.K X.mg X.base:=I.ok.mod
theorem Inv.kIn(I:Inv X pins σ H s):X.K.In s.heap:=I.ok.mod.kin.keeps I.bk
theorem Inv.lt(I:Inv X pins σ H s):X.env.locals < s.heap.objs.size:=let⟨_,hn,_⟩:=I.loc;hn.lt
theorem Inv.sz(I:Inv X pins σ H s):X.s_0.heap.objs.size<=s.heap.objs.size:=Nat.le_trans I.ok.above (Nat.le_of_lt I.lt)
theorem Inv.nofs(I:Inv X pins σ H s){a:Addr}(h:s.heap.objs.size<=a):a∉X.fs:=fun hb=>by
 obtain⟨_,o,ho,_⟩:=I.ok.funs.mem hb
 exact absurd (Nat.lt_of_lt_of_le (Heap.lt_size ho) (Nat.le_trans I.sz h)) (Nat.lt_irrefl _)
theorem Inv.cne(I:Inv X pins σ H s):∀x c,X.env.cells.lookup x=some c->c≠X.env.locals:=fun x c e z=>by
 obtain⟨v,o,ho,hd⟩:=I.cell x c e
 obtain⟨m,⟨o',es,ep,ho',hd',_⟩,_⟩:=I.loc
 rw[z,ho']at ho;cases ho;rw[hd']at hd;cases hd
theorem Inv.funs(I:Inv X pins σ H s):s.heap.FunFrames X.base X.outer:=by
 have all:∀(l:List Env),(∀b∈frs l,b∈X.fs)->X.s_0.heap.FunFrames X.base l->s.heap.FunFrames X.base l:=by
  intro l
  induction l with
  | nil=>intro _ _;trivial
  | cons env r ih=>
   intro hs hl
   obtain⟨hk,⟨L,o,hf,hn,ho,hd⟩,hr⟩:=hl
   have hL:L∈X.fs:=hs L (by unfold frs;rw[List.filterMap_cons,hf];exact List.mem_cons_self)
   obtain⟨sl,e⟩:=I.base.slot L o ho (I.ok.frf L hL) hL fun z=>I.ok.exfs L z hL
   exact⟨hk,⟨L,_,hf,hn,e,hd⟩,ih (fun b hb=>hs b (by unfold frs;rw[List.filterMap_cons,hf];exact List.mem_cons_of_mem _ hb)) hr⟩
 exact all X.outer (fun _ hb=>hb) I.ok.funs
theorem Inv.stack(I:Inv X pins σ H s):s.heap.FunFrames X.base X.stack:=by
 rcases I.ok.stk with e | ⟨e,hf⟩
 ·rw[e];exact I.funs
 ·rw[e]
  obtain⟨m,hn,_⟩:=I.loc
  refine .cons (by rw[I.ok.kind];decide) hf hn ?_ I.funs
  exact Heap.get?_none_of_le (Nat.le_trans I.ok.bsz I.ok.above)
theorem Inv.stkSub(I:Inv X pins σ H s):∀b∈frs X.stack,b∈X.env.locals::X.fs:=fun b hb=>by
 rcases I.ok.stk with e | ⟨e,hf⟩
 ·rw[e]at hb;exact List.mem_cons_of_mem _ hb
 ·rw[e]at hb
  unfold frs at hb
  rw[List.filterMap_cons,hf]at hb
  exact hb
theorem Inv.stkFree(I:Inv X pins σ H s):∀b∈frs X.stack,H b=none:=fun b hb=>by
 rcases List.mem_cons.mp (I.stkSub b hb)with e | hb
 ·rw[e];exact I.free
 ·obtain⟨_,o,ho,_⟩:=I.ok.funs.mem hb
  exact I.base.free b o ho (I.ok.frf b hb) fun z=>I.ok.exfs b z hb
theorem Inv.step{g':Array GenState}{t':Nat}{d':Drawn}{ch:List Addr}(I:Inv X pins σ H s)
  (hch:∀b∈ch,(b∈X.ex\/X.s_0.heap.objs.size<=b)/\b≠X.env.locals/\(∀x c,X.env.cells.lookup x=some c->c≠b)/\∀p∈X.pn++pins,p.1≠b)
  (keep:∀b o,b≠X.env.locals->b∉X.fs->b∉ch->s.heap.get? b=some o->H b=none->h'.get? b=some o)
  (slot:∀b o,b≠X.env.locals->b∈X.fs->b∉ch->s.heap.get? b=some o->H b=none->∃sl,h'.get? b=some {o with slots:=sl}) (free:∀b o,b∉ch->s.heap.get? b=some o->H b=none->H' b=none)
  (there:∀b o,b∉ch->s.heap.get? b=some o->∃o',h'.get? b=some o')
  (tups:∀b xs,H b=some (.tup xs)->H' b=some (.tup xs)) (frzs:∀b o u,H b=some (.frz o u)->H' b=some (.frz o u)) (tbls:∀b ps,H b=some (.tbl ps)->∃more,H' b=some (.tbl (ps++more)))
  (ns:∀m,s.heap.Ns X.env.locals m->h'.Ns X.env.locals m) (hok:HOk X.prog X.w H' h') (hg:AllBare g'):
  Inv X pins σ H' {s with heap:=h',gens:=g',drawn:=d',toks:=t'}:=by
 have neL:∀b o,X.s_0.heap.get? b=some o->b≠X.env.locals:=fun b o e=>Nat.ne_of_lt (Nat.lt_of_lt_of_le (Heap.lt_size e) I.ok.above)
 have neC:∀b o,X.s_0.heap.get? b=some o->b∉X.ex->b∉ch:=fun b o e hx hb=>by
  rcases(hch b hb).1 with z | z
  ·exact hx z
  ·exact absurd (Nat.lt_of_lt_of_le (Heap.lt_size e) z) (Nat.lt_irrefl _)
 have cellK:∀x c,X.env.cells.lookup x=some c->∀v,s.heap.IsCell c v->h'.IsCell c v:=fun x c e v ⟨o,ho,hd⟩=>by
  have nch:c∉ch:=fun z=>(hch c z).2.2.1 x c e rfl
  by_cases hc:c∈X.fs
  ·obtain⟨sl,q⟩:=slot c o (I.cne x c e) hc nch ho (I.freeC x c e)
   exact⟨_,q,hd⟩
  ·exact⟨o,keep c o (I.cne x c e) hc nch ho (I.freeC x c e),hd⟩
 refine⟨I.ok,I.os,hg,⟨fun b o e n hb hx=>?_,fun b o e n hb hx=>?_,fun b o e n hx=>?_,fun b o e hx=>?_,fun b xs e=>tups b xs (I.base.tups b xs e),fun b o xs e=>frzs b o xs (I.base.frzs b o xs e),fun b ps e=>?_⟩,?_,fun x c e=>?_,?_,fun x c e=>?_,fun p hp=>?_,hok,I.len⟩
 ·exact keep b o (neL b o e) hb (neC b o e hx) (I.base.keep b o e n hb hx) (I.base.free b o e n hx)
 ·obtain⟨sl,e1⟩:=I.base.slot b o e n hb hx
  obtain⟨sl',e2⟩:=slot b _ (neL b o e) hb (neC b o e hx) e1 (I.base.free b o e n hx)
  exact⟨sl',e2⟩
 ·obtain⟨o',e1⟩:=I.base.there b o e hx
  exact free b o' (neC b o e hx) e1 (I.base.free b o e n hx)
 ·obtain⟨o',e1⟩:=I.base.there b o e hx
  exact there b o' (neC b o e hx) e1
 ·obtain⟨m1,e1⟩:=I.base.tbls b ps e
  obtain⟨m2,e2⟩:=tbls b _ e1
  exact⟨m1++m2,by rw[e2,Array.append_assoc]⟩
 ·obtain⟨m,hn,hl⟩:=I.loc
  refine⟨m,ns m hn,fun i x v e1 e2 e3=>?_⟩
  obtain⟨u,r,l⟩:=hl i x v e1 e2 e3
  refine⟨u,r,?_⟩
  rcases l with l | ⟨k,c,e,z⟩
  ·exact .inl l
  ·exact .inr ⟨k,c,e,cellK x c e _ z⟩
 ·obtain⟨v,z⟩:=I.cell x c e
  exact⟨v,cellK x c e v z⟩
 ·obtain⟨m,⟨o,_,_,ho,_⟩,_⟩:=I.loc
  exact free _ o (fun z=>(hch _ z).2.1 rfl) ho I.free
 ·obtain⟨v,o,ho,hd⟩:=I.cell x c e
  exact free c o (fun z=>(hch c z).2.2.1 x c e rfl) ho (I.freeC x c e)
 ·obtain⟨e,n,ne,nf,d⟩:=I.pin p hp
  have nch:p.1∉ch:=fun z=>(hch p.1 z).2.2.2 p hp rfl
  exact⟨keep p.1 p.2 ne nf nch e n,free p.1 p.2 nch e n,ne,nf,d⟩
theorem Inv.un{t':Nat}(I:Inv X pins σ H s)(u:Un X.fs [] H H' s.heap h')(hok:HOk X.prog X.w H' h'):Inv X pins σ H' {s with heap:=h',toks:=t'}:=by
 obtain⟨m,⟨o,es,ep,ho,r⟩,_⟩:=id I.loc
 obtain⟨sl,hL⟩:=u.any ho I.free (by simp)
 exact I.step (g':=s.gens) (d':=s.drawn) (ch:=[]) (fun _ z=>nomatch z) (fun b o _ hb _ e n=>u.keep b o e n hb (by simp)) (fun b o _ hb _ e n=>u.slot b o e n hb (by simp)) (fun b o _ e n=>u.free b o e n (by simp)) (fun b o _ e=>u.there b o e (by simp)) u.tups u.frzs u.tbls (fun m' hm=>by
  obtain⟨o',es',ep',ho',r'⟩:=hm
  rw[ho]at ho';cases ho'
  exact⟨_,es',ep',hL,r'⟩) hok I.bare
theorem Inv.call{g':Array GenState}{t':Nat}{d':Drawn}{ch:List Addr}(I:Inv X pins σ H s)(u:Un (frs X.stack) ch H H' s.heap h')(hok:HOk X.prog X.w H' h')(hg:AllBare g')
  (hch:∀b∈ch,(b∈X.ex\/X.s_0.heap.objs.size<=b)/\b≠X.env.locals/\(∀x c,X.env.cells.lookup x=some c->c≠b)/\∀p∈X.pn++pins,p.1≠b):
  Inv X pins σ H' {s with heap:=h',gens:=g',drawn:=d',toks:=t'}:=by
 obtain⟨m,⟨o,es,ep,ho,r⟩,_⟩:=id I.loc
 obtain⟨sl,hL⟩:=u.any ho I.free fun z=>(hch _ z).2.1 rfl
 exact I.step (ch:=ch) hch (fun b o hL hb hc e n=>u.keep b o e n (fun z=>(List.mem_cons.mp (I.stkSub b z)).elim hL hb) hc) (fun b o _ _ hc e n=>u.any e n hc) (fun b o hc e n=>u.free b o e n hc) (fun b o hc e=>u.there b o e hc) u.tups u.frzs u.tbls (fun m' hm=>by
  obtain⟨o',es',ep',ho',r'⟩:=hm
  rw[ho]at ho';cases ho'
  exact⟨_,es',ep',hL,r'⟩) hok hg
theorem Inv.turned{t':Nat}{it:Addr}(I:Inv X pins σ H s)(k:∀b o,b≠it->s.heap.get? b=some o->h'.get? b=some o)(hn:H it=none)(hL:it≠X.env.locals)
  (h1:it∈X.ex\/X.s_0.heap.objs.size<=it) (h2:∀x c,X.env.cells.lookup x=some c->c≠it) (h3:∀p∈X.pn++pins,p.1≠it):Inv X pins σ H {s with heap:=h',toks:=t'}:=by
 have nit:∀b u,H b=some u->b≠it:=fun b u e z=>by rw[z,hn]at e;cases e
 refine I.step (g':=s.gens) (d':=s.drawn) (ch:=[it]) (fun b hb=>?_) (fun b o _ _ hc e _=>k b o (fun z=>hc (by simp[z])) e) (fun b o _ _ hc e _=>⟨o.slots,k b o (fun z=>hc (by simp[z])) e⟩) (fun _ _ _ _ n=>n)
  (fun b o hc e=>⟨o,k b o (fun z=>hc (by simp[z])) e⟩) (fun _ _ e=>e) (fun _ _ _ e=>e) (fun b ps e=>⟨#[],by rw[e];simp⟩) (fun m hm=>?_) (fun b u e=>?_) I.bare
 ·have e:b=it:=by simpa using hb
  subst e
  exact⟨h1,hL,h2,h3⟩
 ·obtain⟨o,es,ep,ho,r⟩:=hm
  exact⟨o,es,ep,k _ o (Ne.symm hL) ho,r⟩
 ·refine(I.hok b u e).stay (fun c v hc q=>k c v ?_ q) (fun _ q=>q) fun _ _ q=>q
  rcases hc with z | z
  ·rw[z];exact nit b u e
  ·exact nit c _ z
theorem Inv.tok(I:Inv X pins σ H s)(t:Nat):Inv X pins σ H {s with toks:=t}:=I.un (h':=s.heap) (t':=t) Un.refl I.hok
theorem Inv.kept{t':Nat}(I:Inv X pins σ H s)(k:∀b u,s.heap.get? b=some u->h'.get? b=some u):Inv X pins σ H {s with heap:=h',toks:=t'}:=I.un (Un.kept k) (I.hok.kept k)
theorem Inv.laid{a:Addr}{o:HO}{t':Nat}(I:Inv X pins σ H s)(k:∀b u,s.heap.get? b=some u->h'.get? b=some u)(hp:s.heap.objs.size<=a)(new:ObjOk X.prog X.w (upd H a o) h' a o):
  Inv X pins σ (upd H a o) {s with heap:=h',toks:=t'}:=I.un (Un.laid k hp (I.hok.fresh hp)) (I.hok.laid k hp new)
theorem Inv.write{x e:Addr}{o:HO}{t':Nat}(I:Inv X pins σ H s)(mu:Mut (H x))(he:e=x\/H e=some (.own x))(k:∀b u,b≠e->s.heap.get? b=some u->h'.get? b=some u)(heo:∃u,h'.get? e=some u)
  (new:ObjOk X.prog X.w (upd H x o) h' x o):Inv X pins σ (upd H x o) {s with heap:=h',toks:=t'}:=I.un (Un.write mu he k heo) (I.hok.write mu he k heo new)
theorem Inv.weak{σ':List (Option V)}(I:Inv X pins σ H s)(hl:σ'.length=σ.length)(w:∀(i:Nat) v,σ'[i]? =some (some v)->σ[i]? =some (some v)):Inv X pins σ' H s:=
 ⟨I.ok,I.os,I.bare,I.base,let⟨m,hn,hl'⟩:=I.loc;⟨m,hn,fun i x v e1 e2 e3=>hl' i x v e1 (w i v e2) e3⟩,I.cell,I.free,I.freeC,I.pin,I.hok,hl.trans I.len⟩
theorem Inv.pins_of{pins':List (Addr×Obj)}(I:Inv X pins σ H s)(h:∀p∈pins',s.heap.get? p.1=some p.2/\H p.1=none/\p.1≠X.env.locals/\p.1∉X.fs/\∀v,p.2.data≠.cell v):Inv X pins' σ H s:=
 ⟨I.ok,I.os,I.bare,I.base,I.loc,I.cell,I.free,I.freeC,fun p hp=>(List.mem_append.mp hp).elim (fun z=>I.pin p (List.mem_append_left _ z)) (h p),I.hok,I.len⟩
theorem zJl{N:List Str}(hN:N.Nodup){i j:Nat}{x:Str}(a:N[i]? =some x)(b:N[j]? =some x):i=j:=by
 obtain⟨h1,e1⟩:=List.getElem?_eq_some_iff.mp a
 obtain⟨h2,e2⟩:=List.getElem?_eq_some_iff.mp b
 exact(List.getElem_inj hN).mp (e1.trans e2.symm)
theorem zHm{M:Model}{A:Around}{E:Value->Shared->Prop}{i:Nat}{x:Str}{v:V}{u:Value}{Q:Unit->Shared->Prop}(I:Inv X pins σ H s)(hN:X.N.Nodup)(hi:X.N[i]? =some x)(hx:Loc X.env.scope x)(r:RelV v u)
  (h:∀s',Inv X pins (σ.set i (some v)) H s'->(∃a,Heap.SameBut a s.heap s'.heap/\(a=X.env.locals\/X.env.cells.lookup x=some a))->Q () s') (hf:X.fn x=true\/X.env.scope.names.lookup x=some .local:=by first | exact .inl rfl | exact .inr rfl | assumption):wpAny M A (storeName X.env x u) Q E s:=by
 obtain⟨m,hn,hl⟩:=id I.loc
 have hcls:(X.env.scope.kind == .class || (X.env.scope.kind == .module&&X.env.locals != X.env.globals))=false:=by rw[I.ok.kind];rfl
 have hiσ:i < σ.length:=by rw[I.len];exact(List.getElem?_eq_some_iff.mp hi).1
 have cne:=I.cne
 have tracked:∀{a:Addr} {h':Heap},(∃o,s.heap.get? a=some o/\H a=none)->Heap.SameBut a s.heap h'->HOk X.prog X.w H h':=fun {a h'} ha hs b ob e=>by
  obtain⟨_,_,hfree⟩:=ha
  refine(I.hok b ob e).stay (fun c w' hc q=>(hs.2 c ?_).trans q) (fun _ q=>q) fun _ _ q=>q
  rintro rfl
  rcases hc with rfl | hc
  ·rw[hfree]at e;cases e
  ·rw[hfree]at hc;cases hc
 rcases hx with hk | hk
 ·refine wpAny_storeName_local hk hn (fun h' hn' hs=>?_) hcls
  obtain⟨oL,_,_,hoL,_⟩:=id hn
  refine h _ ⟨I.ok,I.os,I.bare,⟨fun b o e n hb hx=>?_,fun b o e n hb hx=>?_,I.base.free,fun b o e hx=>?_,I.base.tups,I.base.frzs,I.base.tbls⟩,⟨_,hn',fun j y v' e1 e2 e3=>?_⟩,fun y c e=>?_,I.free,I.freeC,fun p hp=>?_,tracked ⟨oL,hoL,I.free⟩ hs,by simpa using I.len⟩ ⟨_,hs,.inl rfl⟩
  ·exact(hs.2 b (Nat.ne_of_lt (Nat.lt_of_lt_of_le (Heap.lt_size e) I.ok.above))).trans (I.base.keep b o e n hb hx)
  ·obtain⟨sl,e1⟩:=I.base.slot b o e n hb hx
   exact⟨sl,(hs.2 b (Nat.ne_of_lt (Nat.lt_of_lt_of_le (Heap.lt_size e) I.ok.above))).trans e1⟩
  ·obtain⟨o',e1⟩:=I.base.there b o e hx
   exact⟨o',(hs.2 b (Nat.ne_of_lt (Nat.lt_of_lt_of_le (Heap.lt_size e) I.ok.above))).trans e1⟩
  ·by_cases hj:j=i
   ·subst hj
    rw[hi]at e1;cases e1
    rw[List.getElem?_set_self hiσ]at e2
    cases e2
    exact⟨u,r,.inl ⟨hk,by simp⟩⟩
   ·rw[List.getElem?_set_ne (Ne.symm hj)]at e2
    obtain⟨u',r',q⟩:=hl j y v' e1 e2 e3
    refine⟨u',r',?_⟩
    rcases q with⟨k,e⟩ | ⟨k,c,e,z⟩
    ·refine .inl ⟨k,?_⟩
     have:y≠x:=fun e=>hj (zJl hN e1 (e▸hi))
     simp[this,e]
    ·exact .inr ⟨k,c,e,z.sameBut hs (cne y c e)⟩
  ·obtain⟨w',z⟩:=I.cell y c e
   exact⟨w',z.sameBut hs (cne y c e)⟩
  ·obtain⟨e,n,ne,nf,d⟩:=I.pin p hp
   exact⟨(hs.2 p.1 ne).trans e,n,ne,nf,d⟩
 ·have hfn:X.fn x=true:=by
   rcases hf with z | z
   ·exact z
   ·rw[z]at hk;cases hk
  obtain⟨c,hc⟩:=I.ok.has x (.inl hk)
  obtain⟨w',z⟩:=I.cell x c hc
  refine wpAny_storeName_cell I.ok.kind hk hc z (fun h' hc' hs=>?_)
  obtain⟨oc,hoc,hocd⟩:=id z
  refine h {s with heap:=h'} ⟨I.ok,I.os,I.bare,⟨fun b o e n hb hx=>?_,fun b o e n hb hx=>?_,I.base.free,fun b o e hx=>?_,I.base.tups,I.base.frzs,I.base.tbls⟩,⟨m,hn.sameBut hs (Ne.symm (cne x c hc)),fun j y v' e1 e2 e3=>?_⟩,fun y c' e=>?_,I.free,I.freeC,fun p hp=>?_,tracked ⟨oc,hoc,I.freeC x c hc⟩ hs,by simpa using I.len⟩ ⟨c,hs,.inr hc⟩
  ·exact(hs.2 b (Nat.ne_of_lt (Nat.lt_of_lt_of_le (Heap.lt_size e) (I.ok.cab x c hfn hc)))).trans (I.base.keep b o e n hb hx)
  ·obtain⟨sl,e1⟩:=I.base.slot b o e n hb hx
   exact⟨sl,(hs.2 b (Nat.ne_of_lt (Nat.lt_of_lt_of_le (Heap.lt_size e) (I.ok.cab x c hfn hc)))).trans e1⟩
  ·obtain⟨o',e1⟩:=I.base.there b o e hx
   exact⟨o',(hs.2 b (Nat.ne_of_lt (Nat.lt_of_lt_of_le (Heap.lt_size e) (I.ok.cab x c hfn hc)))).trans e1⟩
  ·by_cases hj:j=i
   ·subst hj
    rw[hi]at e1;cases e1
    rw[List.getElem?_set_self hiσ]at e2
    cases e2
    exact⟨u,r,.inr ⟨.inl hk,c,hc,hc'⟩⟩
   ·rw[List.getElem?_set_ne (Ne.symm hj)]at e2
    obtain⟨u',r',q⟩:=hl j y v' e1 e2 e3
    refine⟨u',r',?_⟩
    rcases q with q | ⟨k,c',e,z'⟩
    ·exact .inl q
    ·refine .inr ⟨k,c',e,z'.sameBut hs ?_⟩
     rintro rfl
     exact hj (zJl hN e1 (I.ok.inj _ _ _ e hc▸hi))
  ·by_cases hcc:c'=c
   ·subst hcc;exact⟨_,hc'⟩
   ·obtain⟨w2,z2⟩:=I.cell y c' e
    exact⟨w2,z2.sameBut hs hcc⟩
  ·obtain⟨e,n,ne,nf,d⟩:=I.pin p hp
   refine⟨(hs.2 p.1 ?_).trans e,n,ne,nf,d⟩
   intro q
   rw[q,hoc]at e
   have q':oc=p.2:=Option.some.inj e
   exact d w' (by rw[<-q'];exact hocd)
theorem zJm{M:Model}{A:Around}{E:Value->Shared->Prop}{i:Nat}{x:Str}{v:V}{u:Value}{Q:Unit->Shared->Prop}(I:Inv X pins σ H s)(hN:X.N.Nodup)(hi:X.N[i]? =some x)(hx:Loc X.env.scope x)(r:RelV v u)
  (h:∀s',Inv X pins (σ.set i (some v)) H s'->Q () s') (hf:X.fn x=true\/X.env.scope.names.lookup x=some .local:=by first | exact .inl rfl | exact .inr rfl | assumption):wpAny M A (storeName X.env x u) Q E s:=
 zHm I hN hi hx r (fun s' I' _=>h s' I') hf
theorem Inv.call'{s':Shared}{ch:List Addr}(I:Inv X pins σ H s)(ho:s'.os=s.os)(u:Un (frs X.stack) ch H H' s.heap s'.heap)(hok:HOk X.prog X.w H' s'.heap)(hg:AllBare s'.gens)
  (hch:∀b∈ch,(b∈X.ex\/X.s_0.heap.objs.size<=b)/\b≠X.env.locals/\(∀x c,X.env.cells.lookup x=some c->c≠b)/\∀p∈X.pn++pins,p.1≠b):Inv X pins σ H' s':=by
 obtain⟨h',g',d',t',o'⟩:=s'
 have e:o'=s.os:=ho
 subst e
 exact I.call (g':=g') (t':=t') (d':=d') u hok hg hch
end
noncomputable abbrev XK:=Value->Option Addr->Hp->Prop
noncomputable abbrev St:=List (Option V)
noncomputable abbrev VK:=V->Hp->Prop
noncomputable abbrev TE:=St->Hp->VK->Prop
noncomputable abbrev TT:=St->Hp->(Bool->Hp->Prop)->Prop
noncomputable abbrev TA:=St->Hp->(List V->Hp->Prop)->Prop
structure zMe where
 nx:St->Hp->Prop
 rt:VK
 bk:St->Hp->Prop:=fun _ _=>False
 ct:St->Hp->Prop:=fun _ _=>False
noncomputable abbrev TS:=zMe->St->Hp->Prop
noncomputable def EP(X:Cx)(pins:List (Addr×Obj))(σ:St)(Q:VK)(u:Value)(s':Shared):Prop:=∃v H',Inv X pins σ H' s'/\RelV v u/\Q v H'
noncomputable def TP(X:Cx)(pins:List (Addr×Obj))(σ:St)(Q:Bool->Hp->Prop)(b:Bool)(s':Shared):Prop:=∃H',Inv X pins σ H' s'/\Q b H'
noncomputable def AP(X:Cx)(pins:List (Addr×Obj))(σ:St)(Q:List V->Hp->Prop)(us:List Value)(s':Shared):Prop:=∃vs H',Inv X pins σ H' s'/\Vals vs us/\Q vs H'
noncomputable def SP(X:Cx)(pins:List (Addr×Obj))(D:zMe)(f:Flow)(s':Shared):Prop:=
 match f with
 | .next=>∃σ' H',Inv X pins σ' H' s'/\D.nx σ' H'
 | .brk=>∃σ' H',Inv X pins σ' H' s'/\D.bk σ' H'
 | .cont=>∃σ' H',Inv X pins σ' H' s'/\D.ct σ' H'
 | .ret u=>∃v σ' H',Inv X pins σ' H' s'/\RelV v u/\D.rt v H'
noncomputable def PE(X:Cx)(e:Expr)(t:TE):Prop:=
 ∀(pins:List (Addr×Obj)) (s:Shared) (σ:St) (H:Hp) (Q:VK),Inv X pins σ H s->t σ H Q->wpAny (model X.prog X.w) X.A (eval e X.env) (EP X pins σ Q) X.xe s
noncomputable def PT(X:Cx)(e:Expr)(t:TT):Prop:=
 ∀(pins:List (Addr×Obj)) (s:Shared) (σ:St) (H:Hp) (Q:Bool->Hp->Prop),Inv X pins σ H s->t σ H Q->wpAny (model X.prog X.w) X.A (isTrue e X.env (eval e X.env)) (TP X pins σ Q) X.xe s
noncomputable def PW(X:Cx)(e:Expr)(t:TT):Prop:=
 ∀(whole:Sem Value) (pins:List (Addr×Obj)) (s:Shared) (σ:St) (H:Hp) (Q:Bool->Hp->Prop),Inv X pins σ H s->t σ H Q->wpAny (model X.prog X.w) X.A (isTrue e X.env whole) (TP X pins σ Q) X.xe s
theorem PW.pt{X:Cx}{e:Expr}{t:TT}(h:PW X e t):PT X e t:=h _
noncomputable def PA(X:Cx)(es:List Expr)(t:TA):Prop:=
 ∀(pos:Pos) (pins:List (Addr×Obj)) (s:Shared) (σ:St) (H:Hp) (Q:List V->Hp->Prop),Inv X pins σ H s->t σ H Q->wpAny (model X.prog X.w) X.A (spliced (backTo pos (starEach es X.env))) (AP X pins σ Q) X.xe s
noncomputable def PS(X:Cx)(st:Stmt)(t:TS):Prop:=
 ∀(pins:List (Addr×Obj)) (s:Shared) (σ:St) (H:Hp) (D:zMe),Inv X pins σ H s->t D σ H->wpAny (model X.prog X.w) X.A (exec st X.env) (SP X pins D) X.xe s
noncomputable def PSs(X:Cx)(st:List Stmt)(t:TS):Prop:=
 ∀(pins:List (Addr×Obj)) (s:Shared) (σ:St) (H:Hp) (D:zMe),Inv X pins σ H s->t D σ H->wpAny (model X.prog X.w) X.A (execs st X.env) (SP X pins D) X.xe s
theorem thn{α:Type}{t:Sem α}{Q Q':α->Shared->Prop}{M:Model}{A:Around}{E:Value->Shared->Prop}{s:Shared}(h:wpAny M A t Q E s)(hQ:∀a s,Q a s->Q' a s):wpAny M A t Q' E s:=wpAny_mono h hQ fun _ _ x=>x
end L2
namespace L2
open PySem PySem.Spec PyProof.Rows
section
variable {X:Cx}
noncomputable def zFq(i:Nat):TE:=fun σ H Q=>∃v,σ[i]? =some (some v)/\Q v H
noncomputable def tC(v:V):TE:=fun _ H Q=>Q v H
theorem zSz{i:Nat}{x:Str}{pos:Pos}(hN:X.N[i]? =some x)(hv:Vis X.env.scope x)(hd:(x == ("__debug__":Str))=false:=by decide)(hcd:(x == ("__classdict__":Str))=false:=by decide):PE X (.Name x pos) (zFq i):=by
 intro pins s σ H Q I h
 obtain⟨v,e,h⟩:=h
 obtain⟨m,hn,hl⟩:=I.loc
 obtain⟨u,r,l⟩:=hl i x v hN e hv
 have fin:EP X pins σ Q u s:=⟨v,H,I,r,h⟩
 rcases l with⟨hk,hm⟩ | ⟨hk,c,hc,hcell⟩
 ·exact wpAny_Name (wpAny_loadName_local I.ok.kind hk hn hm fin) hd
 ·rcases hk with hk | hk
  ·exact wpAny_Name (wpAny_loadName_cell I.ok.kind hk hc hcell fin) hd
  ·exact wpAny_Name (wpAny_loadName_free I.ok.kind hk hc hcell fin hcd) hd
theorem zAp{i j pos}:PE X (.Constant (.int i) j pos) (tC (.int i)):=fun _ _ _ H _ I h=>wpAny_Constant_int ⟨.int i,H,I.tok _,⟨_,rfl⟩,h⟩
theorem zHn{b j pos}:PE X (.Constant (.bool b) j pos) (tC (.bl b)):=fun _ _ _ H _ I h=>Constant_bool ⟨.bl b,H,I,rfl,h⟩
theorem zE2{j pos}:PE X (.Constant .none j pos) (tC .non):=fun _ _ _ H _ I h=>Constant_none ⟨.non,H,I,rfl,h⟩
noncomputable def Gl(X:Cx)(x:Str):Prop:=X.env.kindOf x=some .globalImplicit
theorem zF8{E:Value->Shared->Prop}{pins:List (Addr×Obj)}{s:Shared}{σ:St}{H:Hp}{x:Str}{u:Value}{pos:Pos}{Q:Value->Shared->Prop}(I:Inv X pins σ H s)(hg:Gl X x)(hm:X.mg x=some u)(h:Q u s)
  (hd:(x == ("__debug__":Str))=false:=by decide):wpAny (model X.prog X.w) X.A (eval (.Name x pos) X.env) Q E s:=
 Calls.Name_function_global I.ok.kind hg (Calls.loadGlobal_global (by rw[I.ok.glob];exact I.mod.glob.keeps I.bk) hm h) hd
theorem zHo{E:Value->Shared->Prop}{pins:List (Addr×Obj)}{s:Shared}{σ:St}{H:Hp}{x:Str}{u:Value}{pos:Pos}{Q:Value->Shared->Prop}(I:Inv X pins σ H s)(hg:Gl X x)(hm:X.mg x=none)(hv:bootBuiltins x=some u)(h:Q u s)
  (hn:x≠"__name__":=by decide) (hd:(x == ("__debug__":Str))=false:=by decide):wpAny (model X.prog X.w) X.A (eval (.Name x pos) X.env) Q E s:=by
 obtain⟨mb,h1,h2⟩:=I.mod.blt
 exact Calls.Name_function_global I.ok.kind hg (Calls.loadGlobal_builtin (by rw[I.ok.glob];exact I.mod.glob.keeps I.bk) hm (by rw[I.ok.blt];exact h1.keeps I.bk) ((h2 x hn).trans hv) h) hd
theorem zAr{x:Str}{v:V}{u:Value}{pos:Pos}(hg:Gl X x)(hm:X.mg x=some u)(r:RelV v u)(hd:(x == ("__debug__":Str))=false:=by decide):PE X (.Name x pos) (tC v):=
 fun _ _ _ H _ I h=>zF8 I hg hm ⟨v,H,I,r,h⟩ hd
variable {a b:Expr} {ta tb:TE} {pos:Pos}
noncomputable def PC(X:Cx)(op:CmpOp)(a b:Expr)(t:TE):Prop:=
 ∀(pins:List (Addr×Obj)) (s:Shared) (σ:St) (H:Hp) (Q:VK),Inv X pins σ H s->t σ H Q->
  wpAny (model X.prog X.w) X.A (eval a X.env) (fun v s₁=>wpAny (model X.prog X.w) X.A (eval b X.env) (fun u s₂=>wpAny (model X.prog X.w) X.A (compareOp op v u) (EP X pins σ Q) X.xe s₂) X.xe s₁) X.xe s
noncomputable def tB(t:TE):TT:=fun σ H Q=>t σ H fun x H1=>∃c,x= .bl c/\Q c H1
theorem zPd{op:CmpOp}{t:TE}(h:PC X op a b t)(h1:behindInMarks op b=false:=by first | exact nobehind _ (by decide) (by decide) | rfl):PT X (.Compare a [op] [b] pos) (tB t):=by
 intro pins s σ H Q I hw
 refine wpAny_isTrue_Compare1 (thn (h pins s σ H _ I hw) fun v s1 h1=>thn h1 fun u s2 h2=>thn h2 fun c s3 ⟨x,H1,I1,r1,q1⟩=>?_) h1
 obtain⟨d,rfl,q⟩:=q1
 cases r1
 exact wpAny_truthy_bool ⟨H1,I1,q⟩
variable {tA tB':TT} {rest:List Expr}
noncomputable def yBx(t u:TT):TT:=fun σ H Q=>t σ H fun c H1=>if c=true then u σ H1 Q else Q false H1
noncomputable def tOr(t u:TT):TT:=fun σ H Q=>t σ H fun c H1=>if c=true then Q true H1 else u σ H1 Q
noncomputable def zYe(t:TT):TT:=fun σ H Q=>t σ H fun c H1=>Q (!c) H1
theorem zTo(ha:PT X a tA):PW X (.BoolOp .And [a] pos) tA:=by
 intro wh pins s σ H Q I h
 refine isTrue_and (thn (ha pins s σ H Q I h) fun c s1 e=>?_)
 cases c with
 | true=>exact isTrue_and_nil e
 | false=>exact e
theorem zHp(ha:PT X a tA):PW X (.BoolOp .Or [a] pos) tA:=by
 intro wh pins s σ H Q I h
 refine isTrue_or (thn (ha pins s σ H Q I h) fun c s1 e=>?_)
 cases c with
 | false=>exact isTrue_or_nil e
 | true=>exact e
theorem zVj(ha:PT X a tA)(hb:PW X (.BoolOp .And (b::rest) pos) tB'):PW X (.BoolOp .And (a::b::rest) pos) (yBx tA tB'):=by
 intro wh pins s σ H Q I h
 refine isTrue_and (thn (ha pins s σ H _ I h) fun c s1 ⟨H1,I1,q1⟩=>?_)
 cases c with
 | true=>exact hb wh pins s1 σ H1 Q I1 q1
 | false=>exact⟨H1,I1,q1⟩
theorem zJn(ha:PT X a tA)(hb:PW X (.BoolOp .Or (b::rest) pos) tB'):PW X (.BoolOp .Or (a::b::rest) pos) (tOr tA tB'):=by
 intro wh pins s σ H Q I h
 refine isTrue_or (thn (ha pins s σ H _ I h) fun c s1 ⟨H1,I1,q1⟩=>?_)
 cases c with
 | true=>exact⟨H1,I1,q1⟩
 | false=>exact hb wh pins s1 σ H1 Q I1 q1
theorem zE3(ha:PT X a tA):PT X (.UnaryOp .Not a pos) (zYe tA):=by
 intro pins s σ H Q I h
 exact isTrue_not (ha pins s σ H (fun c H1=>Q (!c) H1) I h)
noncomputable def zYf(ta tb:TE):TE:=fun σ H Q=>ta σ H fun x H1=>∃c,x= .bl c/\if c=true then tb σ H1 Q else Q (.bl false) H1
noncomputable def yBy(ta tb:TE):TE:=fun σ H Q=>ta σ H fun x H1=>∃c,x= .bl c/\if c=true then Q (.bl true) H1 else tb σ H1 Q
noncomputable def zYg(ta:TE):TE:=fun σ H Q=>ta σ H fun x H1=>∃c,x= .bl c/\Q (.bl (!c)) H1
theorem zE4{op}{t:TE}(h:PE X a t):PE X (.BoolOp op [a] pos) t:=fun pins s σ H Q I hw=>BoolOp_one (h pins s σ H Q I hw)
theorem zIu(ha:PE X a ta)(hb:PE X (.BoolOp .And (b::rest) pos) tb):PE X (.BoolOp .And (a::b::rest) pos) (zYf ta tb):=by
 intro pins s σ H Q I h
 refine BoolOp_and (thn (ha pins s σ H _ I h) fun v s1 ⟨x,H1,I1,r1,q1⟩=>?_)
 obtain⟨c,rfl,q1⟩:=q1
 cases r1
 refine wpAny_truthy_bool ?_
 cases c with
 | true=>exact hb pins s1 σ H1 Q I1 q1
 | false=>exact⟨.bl false,H1,I1,rfl,q1⟩
theorem zRf(ha:PE X a ta)(hb:PE X (.BoolOp .Or (b::rest) pos) tb):PE X (.BoolOp .Or (a::b::rest) pos) (yBy ta tb):=by
 intro pins s σ H Q I h
 refine BoolOp_or (thn (ha pins s σ H _ I h) fun v s1 ⟨x,H1,I1,r1,q1⟩=>?_)
 obtain⟨c,rfl,q1⟩:=q1
 cases r1
 refine wpAny_truthy_bool ?_
 cases c with
 | false=>exact hb pins s1 σ H1 Q I1 q1
 | true=>exact⟨.bl true,H1,I1,rfl,q1⟩
theorem zVk(ha:PE X a ta):PE X (.UnaryOp .Not a pos) (zYg ta):=by
 intro pins s σ H Q I h
 refine UnaryOp_ (thn (ha pins s σ H _ I h) fun v s1 ⟨x,H1,I1,r1,q1⟩=>?_)
 obtain⟨c,rfl,q1⟩:=q1
 cases r1
 exact not_of (wpAny_truthy_bool ⟨.bl (!c),H1,I1,rfl,q1⟩)
noncomputable def tIf(t:TT)(ta tb:TE):TE:=fun σ H Q=>t σ H fun c H1=>if c=true then ta σ H1 Q else tb σ H1 Q
theorem zDf{c:Expr}(hc:PT X c tA)(ha:PE X a ta)(hb:PE X b tb):PE X (.IfExp c a b pos) (tIf tA ta tb):=by
 intro pins s σ H Q I h
 refine wpAny_IfExp (thn (hc pins s σ H _ I h) fun d s1 ⟨H1,I1,q1⟩=>?_)
 cases d with
 | true=>exact ha pins s1 σ H1 Q I1 q1
 | false=>exact hb pins s1 σ H1 Q I1 q1
end
end L2
namespace L2
open PySem PySem.Spec PyProof.Rows
noncomputable def SqL(K:PySem.W.Frag)(H:Hp)(a:Addr)(xs:List V):Prop:=
 Rd H a (.lst xs)\/
  ∃(o:Obj) (its:Array Value) (n:Nat),K.lookup a=some o/\o.cls= .type "list"/\o.dict=none/\o.data= .seq its n/\its.size<=sizeLine/\Vals xs its.toList
noncomputable def SqT(K:PySem.W.Frag)(H:Hp)(a:Addr)(xs:List V):Prop:=
 Rd H a (.tup xs)\/
  ∃(o:Obj) (its:Array Value) (n:Nat),K.lookup a=some o/\o.cls= .type "tuple"/\o.data= .seq its n/\its.size<=sizeLine/\Vals xs its.toList
noncomputable def yBz:Value->Option V
 | .none=>some .non
 | .bool b=>some (.bl b)
 | .int i _=>some (.int i)
 | .str x _=>some (.str x)
 | .bytes b _=>some (.byt b)
 | .float b _=>some (.flt b)
 | .ref a=>some (.ref a)
 | .type n=>some (.ty n)
 | _=>none
theorem RelV.abs{x:V}{u:Value}(r:RelV x u):yBz u=some x:=by
 cases x with
 | non=>cases r;rfl
 | bl _=>cases r;rfl
 | int _=>obtain⟨t,rfl⟩:=r;rfl
 | str _=>obtain⟨t,rfl⟩:=r;rfl
 | byt _=>obtain⟨t,rfl⟩:=r;rfl
 | flt _=>obtain⟨t,rfl⟩:=r;rfl
 | ref _=>cases r;rfl
 | ty _=>cases r;rfl
theorem RelV.inj{x y:V}{u:Value}(r:RelV x u)(q:RelV y u):x=y:=Option.some.inj (r.abs.symm.trans q.abs)
theorem Vals.inj:∀{xs ys:List V} {us:List Value},Vals xs us->Vals ys us->xs=ys
 | _,_,_,.nil,.nil=>rfl
 | _,_,_,.cons r t,.cons r' t'=>by rw[r.inj r',Vals.inj t t']
section
variable {X:Cx} {pins:List (Addr×Obj)} {σ:St} {H:Hp} {s:Shared} {a:Addr} {xs ys:List V}
theorem SqL.of{K:PySem.W.Frag}(h:H a=some (.lst xs)):SqL K H a xs:= .inl (.inl h)
theorem SqT.of{K:PySem.W.Frag}(h:H a=some (.tup xs)):SqT K H a xs:= .inl (.inl h)
theorem Inv.list(I:Inv X pins σ H s)(h:SqL X.K H a xs):∃its:List Value,Vals xs its/\PlainL s.heap a its.toArray/\xs.length<=sizeLine:=by
 rcases h with h | ⟨o,its,n,hk,hc,hd,hs,hz,r⟩
 ·obtain⟨z,its,n,r,e⟩:=h.ok I.hok
  exact⟨its,r,⟨_,n,e,rfl,rfl,rfl⟩,z⟩
 ·refine⟨its.toList,r,⟨o,n,I.kIn a o hk,hc,hd,by simpa using hs⟩,?_⟩
  have e:=r.length
  simp only [Array.length_toList]at e
  omega
theorem Inv.tuple(I:Inv X pins σ H s)(h:SqT X.K H a xs):∃its:List Value,Vals xs its/\IsTup s.heap a its.toArray/\xs.length<=sizeLine:=by
 rcases h with h | ⟨o,its,n,hk,hc,hs,hz,r⟩
 ·obtain⟨z,its,r,p⟩:=h.ok I.hok
  exact⟨its,r,p,z⟩
 ·refine⟨its.toList,r,⟨o,I.kIn a o hk,hc,n,by simpa using hs⟩,?_⟩
  have e:=r.length
  simp only [Array.length_toList]at e
  omega
theorem Inv.list_inj(I:Inv X pins σ H s)(h:SqL X.K H a xs)(h':SqL X.K H a ys):xs=ys:=by
 obtain⟨its,r,⟨o,n,e,_,_,d⟩,_⟩:=I.list h
 obtain⟨its',r',⟨o',n',e',_,_,d'⟩,_⟩:=I.list h'
 rw[e]at e';cases e'
 rw[d]at d'
 injection d' with d1 _
 have:its=its':=by simpa using congrArg Array.toList d1
 subst this
 exact r.inj r'
theorem Inv.tuple_inj(I:Inv X pins σ H s)(h:SqT X.K H a xs)(h':SqT X.K H a ys):xs=ys:=by
 obtain⟨its,r,⟨o,e,_,n,d⟩,_⟩:=I.tuple h
 obtain⟨its',r',⟨o',e',_,n',d'⟩,_⟩:=I.tuple h'
 rw[e]at e';cases e'
 rw[d]at d'
 injection d' with d1 _
 have:its=its':=by simpa using congrArg Array.toList d1
 subst this
 exact r.inj r'
end
noncomputable abbrev Cx.wish(X:Cx)(E:Value->Shared->Prop):Cx:={X with xe:=E}
noncomputable abbrev Cx.nox(X:Cx):Cx:=X.wish fun _ _=>False
theorem Cx.Ok.wish{X:Cx}(ok:X.Ok)(E:Value->Shared->Prop):(X.wish E).Ok:=
 ⟨ok.mod,ok.kind,ok.glob,ok.blt,ok.above,ok.inj,ok.has,ok.cab,ok.hd,ok.frames,ok.stk,ok.exf,ok.bs,ok.bsz,ok.noex,ok.exfs,ok.funs,ok.frf⟩
theorem Cx.Ok.unwish{X:Cx}{E:Value->Shared->Prop}(ok:(X.wish E).Ok):X.Ok:=
 ⟨ok.mod,ok.kind,ok.glob,ok.blt,ok.above,ok.inj,ok.has,ok.cab,ok.hd,ok.frames,ok.stk,ok.exf,ok.bs,ok.bsz,ok.noex,ok.exfs,ok.funs,ok.frf⟩
section
variable {X:Cx} {pins:List (Addr×Obj)} {σ:St} {H:Hp} {s:Shared} {E:Value->Shared->Prop}
theorem Inv.wish(I:Inv X pins σ H s)(E:Value->Shared->Prop):Inv (X.wish E) pins σ H s:=⟨I.ok.wish E,I.os,I.bare,I.base,I.loc,I.cell,I.free,I.freeC,I.pin,I.hok,I.len⟩
theorem Inv.unwish(I:Inv (X.wish E) pins σ H s):Inv X pins σ H s:=⟨I.ok.unwish,I.os,I.bare,I.base,I.loc,I.cell,I.free,I.freeC,I.pin,I.hok,I.len⟩
theorem SP.unwish{D:zMe}{f:Flow}{s':Shared}(h:SP (X.wish E) pins D f s'):SP X pins D f s':=by
 cases f with
 | next=>obtain⟨σ',H',I,q⟩:=h;exact⟨σ',H',I.unwish,q⟩
 | brk=>obtain⟨σ',H',I,q⟩:=h;exact⟨σ',H',I.unwish,q⟩
 | cont=>obtain⟨σ',H',I,q⟩:=h;exact⟨σ',H',I.unwish,q⟩
 | ret u=>obtain⟨v,σ',H',I,r,q⟩:=h;exact⟨v,σ',H',I.unwish,r,q⟩
theorem PSs.nox{st:List Stmt}{t:TS}(h:PSs X.nox st t):PSs X st t:=fun pins s σ H D I hw=>
 wpAny_mono (h pins s σ H D (I.wish _) hw) (fun _ _ q=>q.unwish) fun _ _ z=>False.elim z
end
section
variable {X:Cx} {st:Stmt} {rest:List Stmt} {t u:TS} {e:Expr} {te:TE} {pos:Pos}
noncomputable def zYh:TS:=fun D σ H=>D.nx σ H
noncomputable def yB0(t u:TS):TS:=fun D σ H=>t {D with nx:=u D} σ H
theorem zA5:PSs X [] zYh:=fun _ _ σ H _ I h=>wpAny_execs_nil ⟨σ,H,I,h⟩
theorem zAe(h1:PS X st t)(h2:PSs X rest u):PSs X (st::rest) (yB0 t u):=by
 intro pins s σ H D I h
 refine wpAny_execs_cons (thn (h1 pins s σ H {D with nx:=u D} I h) fun f s1 q=>?_)
 cases f with
 | next=>
  obtain⟨σ',H',I',q⟩:=q
  exact h2 pins s1 σ' H' D I' q
 | ret v=>exact q
 | brk=>exact q
 | cont=>exact q
theorem zAf(h1:PS X st t):PSs X [st] t:=by
 intro pins s σ H D I h
 refine wpAny_execs_cons (thn (h1 pins s σ H D I h) fun f s1 q=>?_)
 cases f with
 | next=>exact wpAny_execs_nil q
 | ret v=>exact q
 | brk=>exact q
 | cont=>exact q
theorem Inv.quiet{pins:List (Addr×Obj)}{σ:St}{H:Hp}{s:Shared}(I:Inv X pins σ H s):interactive X.env=false:=by simp[interactive,I.ok.kind]
noncomputable def zYi(te:TE):TS:=fun D σ H=>te σ H fun _ H1=>D.nx σ H1
theorem zC8(he:PE X e te)(hs:swapsWith e none pos.line X.env=pure false:=by rfl):PS X (.Expr e pos) (zYi te):=by
 intro pins s σ H D I h
 exact wpAny_Expr_any (thn (he pins s σ H _ I h) fun v s1 ⟨x,H1,I1,r1,q1⟩=>⟨σ,H1,I1,q1⟩) I.quiet hs
noncomputable def yAs(te:TE):TS:=fun D σ H=>te σ H D.rt
theorem zAi(he:PE X e te):PS X (.Return (some e) pos) (yAs te):=by
 intro pins s σ H D I h
 exact wpAny_Return_some (thn (he pins s σ H _ I h) fun v s1 ⟨x,H1,I1,r1,q1⟩=>⟨x,σ,H1,I1,r1,q1⟩)
noncomputable def yB1(c:TT)(t u:TS):TS:=fun D σ H=>c σ H fun b H1=>if b=true then t D σ H1 else u D σ H1
theorem zCk{c:Expr}{a b:List Stmt}{tc:TT}(hc:PT X c tc)(ha:PSs X a t)(hb:PSs X b u):PS X (.If c a b pos) (yB1 tc t u):=by
 intro pins s σ H D I h
 refine wpAny_If (thn (hc pins s σ H _ I h) fun d s1 ⟨H1,I1,q1⟩=>?_)
 cases d with
 | true=>exact ha pins s1 σ H1 D I1 q1
 | false=>exact hb pins s1 σ H1 D I1 q1
end
noncomputable abbrev TG:=V->St->Hp->(St->Hp->Prop)->Prop
noncomputable abbrev TGs:=List V->St->Hp->(St->Hp->Prop)->Prop
noncomputable def PG(X:Cx)(target:Expr)(t:TG):Prop:=
 ∀(pins:List (Addr×Obj)) (s:Shared) (σ:St) (H:Hp) (v:V) (u:Value) (Q:St->Hp->Prop),Inv X pins σ H s->RelV v u->t v σ H Q->
  wpAny (model X.prog X.w) X.A (assign target X.env u) (fun _ s'=>∃σ' H',Inv X pins σ' H' s'/\Q σ' H') X.xe s
noncomputable def PGs(X:Cx)(ts:List Expr)(t:TGs):Prop:=
 ∀(pins:List (Addr×Obj)) (s:Shared) (σ:St) (H:Hp) (vs:List V) (us:List Value) (Q:St->Hp->Prop),Inv X pins σ H s->Vals vs us->t vs σ H Q->
  wpAny (model X.prog X.w) X.A (assignInOrder ((assignEach ts X.env).map (·.2)) us) (fun _ s'=>∃σ' H',Inv X pins σ' H' s'/\Q σ' H') X.xe s
noncomputable abbrev TIp:=V->V->Hp->VK->Prop
noncomputable def PIp(X:Cx)(op:Operator)(t:TIp):Prop:=
 ∀(pins:List (Addr×Obj)) (s:Shared) (σ:St) (H:Hp) (x y:V) (v u:Value) (Q:VK),Inv X pins σ H s->RelV x v->RelV y u->t x y H Q->
  wpAny (model X.prog X.w) X.A (inplaceOp op v u) (EP X pins σ Q) X.xe s
section
variable {X:Cx} {pos:Pos}
noncomputable def zEx(i:Nat):TG:=fun v σ H Q=>Q (σ.set i (some v)) H
theorem zAv{i:Nat}{x:Str}(hN:X.N.Nodup)(hi:X.N[i]? =some x)(hx:Loc X.env.scope x)(hf:X.fn x=true\/X.env.scope.names.lookup x=some .local:=by first | exact .inl rfl | exact .inr rfl | assumption):PG X (.Name x pos) (zEx i):=by
 intro pins s σ H v u Q I r h
 exact wpAny_assign_Name (zJm I hN hi hx r (fun s' I'=>⟨_,H,I',h⟩) hf)
noncomputable def zX1:TGs:=fun vs σ H Q=>vs= []/\Q σ H
noncomputable def zKv(t:TG)(u:TGs):TGs:=fun vs σ H Q=>∃v r,vs=v::r/\t v σ H fun σ' H'=>u r σ' H' Q
theorem zHq:PGs X [] zX1:=by
 intro pins s σ H vs us Q I r h
 obtain⟨e,h⟩:=h
 subst e
 cases r
 exact assignInOrder_nil ⟨σ,H,I,h⟩
theorem zCn{e:Expr}{es:List Expr}{t:TG}{u:TGs}(h1:PG X e t)(h2:PGs X es u)
  (hs:(assignEach (e::es) X.env).map (·.2)=assign e X.env::(assignEach es X.env).map (·.2):=by rfl):PGs X (e::es) (zKv t u):=by
 intro pins s σ H vs us Q I r h
 obtain⟨v,vr,e1,h⟩:=h
 subst e1
 cases r with
 | cons r rr=>
  rw[hs]
  refine assignInOrder_cons (thn (h1 pins s σ H _ _ _ I r h) fun _ s1 ⟨σ1,H1,I1,q1⟩=>?_)
  exact h2 pins s1 σ1 H1 _ _ Q I1 rr q1
noncomputable def zX2(K:PySem.W.Frag)(n:Nat)(t:TGs):TG:=fun v σ H Q=>∃a xs,v= .ref a/\SqT K H a xs/\xs.length=n/\t xs σ H Q
theorem zKw{es:List Expr}{k:Nat}{t:TGs}{n:Nat}(hc:X.calm=true)(h:PGs X es t)
  (hn:(assignEach es X.env).length=n:=by rfl) (hst:(assignEach es X.env).findIdx? (·.1)=none:=by rfl):PG X (.Tuple es k pos) (zX2 X.K n t):=by
 intro pins s σ H v u Q I r hw
 obtain⟨a,xs,e1,hq,hl,hw⟩:=hw
 subst e1
 cases r
 obtain⟨its,rv,ht,hz⟩:=I.tuple hq
 refine assign_Tuple_tuple (I.ok.hd hc) ht (by simp[hn,<-hl,rv.length]) hst fun h' hx=>?_
 have I1:Inv X pins σ H {s with heap:=h'}:=I.kept (t':=s.toks) fun b o e=>hx b o (Nat.ne_of_lt (Heap.lt_size e)) e
 exact h pins _ σ H xs _ Q I1 (by simpa using rv) hw
noncomputable def zYj(te:TE)(g:TG):TS:=fun D σ H=>te σ H fun x H1=>g x σ H1 D.nx
theorem zAq{i:Nat}{x:Str}{e:Expr}{te:TE}{pos':Pos}(hN:X.N.Nodup)(hi:X.N[i]? =some x)(hx:Loc X.env.scope x)(he:PE X e te)(hs:swapsWith e (some (.Name x pos')) pos.line X.env=pure false:=by rfl)(hf:X.fn x=true\/X.env.scope.names.lookup x=some .local:=by first | exact .inl rfl | exact .inr rfl | assumption):
  PS X (.Assign [.Name x pos'] e pos) (zYj te (zEx i)):=by
 intro pins s σ H D I h
 refine wpAny_Assign_Name (thn (he pins s σ H _ I h) fun v s1 ⟨y,H1,I1,r1,q1⟩=>?_) hs
 exact zJm I1 hN hi hx r1 (fun s2 I2=>⟨_,H1,I2,q1⟩) hf
noncomputable def yB2(i:Nat)(te:TE)(ti:TIp):TS:=fun D σ H=>∃x,σ[i]? =some (some x)/\te σ H fun y H1=>ti x y H1 fun z H2=>D.nx (σ.set i (some z)) H2
theorem zPe{i:Nat}{x:Str}{e:Expr}{te:TE}{op:Operator}{ti:TIp}{pos':Pos}(hN:X.N.Nodup)(hi:X.N[i]? =some x)(hx:Loc X.env.scope x)(he:PE X e te)(ho:PIp X op ti)(hf:X.fn x=true\/X.env.scope.names.lookup x=some .local:=by first | exact .inl rfl | exact .inr rfl | assumption):
  PS X (.AugAssign (.Name x pos') op e pos) (yB2 i te ti):=by
 intro pins s σ H D I h
 obtain⟨v,e1,h⟩:=h
 obtain⟨m,hn,hl⟩:=I.loc
 have vis:Vis X.env.scope x:=by rcases hx with k | k;exact .inl k;exact .inr (.inl k)
 obtain⟨u,r,l⟩:=hl i x v hi e1 vis
 refine wpAny_AugAssign_Name ?_
 have go:wpAny (model X.prog X.w) X.A (eval e X.env) (fun w s₂=>wpAny (model X.prog X.w) X.A (inplaceOp op u w) (fun r s₃=>wpAny (model X.prog X.w) X.A (storeName X.env x r) (fun _=>SP X pins D .next) X.xe s₃) X.xe s₂) X.xe s:=by
  refine thn (he pins s σ H _ I h) fun w s1 ⟨y,H1,I1,r1,q1⟩=>?_
  refine thn (ho pins s1 σ H1 v y u w _ I1 r r1 q1) fun z s2 ⟨zv,H2,I2,r2,q2⟩=>?_
  exact zJm I2 hN hi hx r2 (fun s3 I3=>⟨_,H2,I3,q2⟩) hf
 rcases l with⟨hk,hm⟩ | ⟨hk,c,hc,hcell⟩
 ·exact wpAny_loadName_local I.ok.kind hk hn hm go
 ·rcases hk with hk | hk
  ·exact wpAny_loadName_cell I.ok.kind hk hc hcell go
  ·rcases hx with k | k
   ·have:X.env.scope.names.lookup x=some .free:=hk
    rw[k]at this;cases this
   ·have:X.env.scope.names.lookup x=some .free:=hk
    rw[k]at this;cases this
noncomputable def ipI(f:Int->Int->Int):TIp:=fun x y H Q=>∃i j,x= .int i/\y= .int j/\Q (.int (f i j)) H
theorem zVl:PIp X .Add (ipI fun i j=>i+j):=by
 intro pins s σ H x y v u Q I r1 r2 h
 obtain⟨i,j,e1,e2,q⟩:=h
 subst e1;subst e2
 obtain⟨t,rfl⟩:=r1
 obtain⟨t',rfl⟩:=r2
 exact iadd_int ⟨.int _,H,I.tok _,⟨_,rfl⟩,q⟩
end
section
variable {X:Cx} {pos:Pos}
noncomputable def zVm(c:TT)(tb:TS):TS:=fun D σ H=>∃W:Nat->St->Hp->Prop,(∃m,W m σ H)/\∀m σ H,W m σ H->
 c σ H fun b H1=>if b=true then∃N:St->Hp->Prop,(∀σ' H',N σ' H'->∃m',m' < m/\W m' σ' H')/\tb {D with nx:=N,ct:=N,bk:=D.nx} σ H1 else D.nx σ H1
theorem zRg{c:Expr}{body:List Stmt}{tc:TT}{tb:TS}(hp:PassesOwn (model X.prog X.w) X.A X.env X.xe)(hc:PT X c tc)(hb:PSs X body tb):PS X (.While c body [] pos) (zVm tc tb):=by
 intro pins s σ H D I h
 obtain⟨W,⟨m0,w0⟩,turn⟩:=h
 refine wpAny_While (codeAny_whileLoop (fun n s'=>∃σ' H',Inv X pins σ' H' s'/\W n σ' H') ?_ m0 ⟨σ,H,I,w0⟩)
 rintro n s1 ⟨σ1,H1,I1,w1⟩
 refine wpAny_passesOwn hp (thn (hc pins s1 σ1 H1 _ I1 (turn n σ1 H1 w1)) fun b s2 ⟨H2,I2,q2⟩=>?_)
 cases b with
 | true=>
  obtain⟨N,hN,q2⟩:=q2
  rw[if_pos rfl]
  refine wpAny_passesOwn hp (thn (hb pins s2 σ1 H2 _ I2 q2) fun f s3 q3=>?_)
  cases f with
  | next=>
   obtain⟨σ3,H3,I3,n3⟩:=q3
   obtain⟨m',hm,w3⟩:=hN σ3 H3 n3
   exact⟨m',hm,σ3,H3,I3,w3⟩
  | cont=>
   obtain⟨σ3,H3,I3,n3⟩:=q3
   obtain⟨m',hm,w3⟩:=hN σ3 H3 n3
   exact⟨m',hm,σ3,H3,I3,w3⟩
  | brk=>exact q3
  | ret v=>exact q3
 | false=>
  rw[if_neg Bool.false_ne_true]
  exact wpAny_execs_nil ⟨σ1,H2,I2,q2⟩
end
structure It where
 go:Nat->Hp->Prop
 yld:Nat->Hp->V->Hp->Prop
 stop:Nat->Hp->Prop
noncomputable def zL7(X:Cx)(pins:List (Addr×Obj))(H:Hp)(b:Addr):Prop:=
 H b=none/\b≠X.env.locals/\b∉X.fs/\(b∈X.ex\/X.s_0.heap.objs.size<=b)/\(∀x c,X.env.cells.lookup x=some c->c≠b)/\∀p∈X.pn++pins,p.1≠b
theorem Inv.fpOk{X:Cx}{pins:List (Addr×Obj)}{σ:St}{H H':Hp}{s:Shared}{b:Addr}(I:Inv X pins σ H s)(hb:s.heap.objs.size<=b)(hn:H' b=none):zL7 X pins H' b:=by
 refine⟨hn,Nat.ne_of_gt (Nat.lt_of_lt_of_le I.lt hb),I.nofs hb,.inr (Nat.le_trans I.sz hb),fun x c e z=>?_,fun p hp z=>?_⟩
 ·obtain⟨v,q⟩:=I.cell x c e
  exact absurd (Nat.lt_of_lt_of_le q.lt (by rw[z];exact hb)) (Nat.lt_irrefl _)
 ·exact absurd (Nat.lt_of_lt_of_le (Heap.lt_size (I.pin p hp).1) (by rw[z];exact hb)) (Nat.lt_irrefl _)
structure zQ8(P:Program)(w:World)(K:PySem.W.Frag)(tg:Expr)(J:It)(fp:List Addr)(it:Addr)(tn:Nat->Heap->Prop):Prop where
 mem:it∈fp
 obj:∀i h,tn i h->∀b∈fp,∃o,h.get? b=some o/\∀v,o.data≠.cell v
 keep:∀i h h',tn i h->(∀b∈fp,∀o,h.get? b=some o->h'.get? b=some o)->tn i h'
 item:∀(X:Cx),X.prog=P->X.w=w->X.K=K->X.calm=true->∀(i:Nat) (pins:List (Addr×Obj)) (s:Shared) (σ:St) (H:Hp) (E:Value->Shared->Prop),Inv X pins σ H s->(∀b∈fp,zL7 X pins H b)->tn i s.heap->J.go i H->
  wpAny (model P w) X.A (pyNext (.ref it)) (fun r s1=>∃u,r=some u/\
   wpAny (model P w) X.A (letOwnedTupleGo tg (.ref it) u) (fun _ s2=>∃x H',Inv X pins σ H' s2/\RelV x u/\J.yld i H x H'/\tn (i+1) s2.heap/\∀b∈fp,H' b=none) E s1) E s
 done:∀(X:Cx),X.prog=P->X.w=w->X.K=K->X.calm=true->∀(i:Nat) (pins:List (Addr×Obj)) (s:Shared) (σ:St) (H:Hp) (E:Value->Shared->Prop),Inv X pins σ H s->(∀b∈fp,zL7 X pins H b)->tn i s.heap->J.stop i H->
  wpAny (model P w) X.A (pyNext (.ref it)) (fun r s1=>r=none/\Inv X pins σ H s1) E s
 self:∀(A:Around) (i:Nat) (s:Shared) (Q:Value->Shared->Prop) (E:Value->Shared->Prop),tn i s.heap->Q (.ref it) s->wpAny (model P w) A (pyIter (.ref it)) Q E s
noncomputable abbrev TI:=St->Hp->(It->Hp->Prop)->Prop
noncomputable def PIE(X:Cx)(pins:List (Addr×Obj))(σ:St)(tg:Expr)(R:It->Hp->Prop)(itv:Value)(s2:Shared):Prop:=
 ∃(it:Addr) (fp:List Addr) (tn:Nat->Heap->Prop) (J:It) (H':Hp),itv= .ref it/\Inv X pins σ H' s2/\zQ8 X.prog X.w X.K tg J fp it tn/\tn 0 s2.heap/\(∀b∈fp,zL7 X pins H' b)/\R J H'
noncomputable def PI(X:Cx)(tg iter:Expr)(wi:TI):Prop:=
 ∀(pins:List (Addr×Obj)) (s:Shared) (σ:St) (H:Hp) (R:It->Hp->Prop),Inv X pins σ H s->wi σ H R->
  wpAny (model X.prog X.w) X.A (eval iter X.env) (fun v s1=>wpAny (model X.prog X.w) X.A (pyIter v) (PIE X pins σ tg R) X.xe s1) X.xe s
theorem zPf{M:Model}{A:Around}{E:Value->Shared->Prop}{s:Shared}{tg:Expr}{it:Addr}{u:Value}{o:Obj}{n:String}{vs:Array Value}{Q:Unit->Shared->Prop}(ho:s.heap.get? it=some o)(hc:o.cls= .type n)(hd:o.data= .fields vs)
  (hn:["enumerate","zip","dict_itemiterator","dict_reverseitemiterator","odict_iterator","itertools.zip_longest","itertools.pairwise"].contains n=false) (hQ:Q () s):wpAny M A (letOwnedTupleGo tg (.ref it) u) Q E s:=by
 unfold letOwnedTupleGo
 cases tg <;> first
  | exact wpAny_pure hQ
  | (cases u <;> first
    | exact wpAny_pure hQ
    | (refine wpAny_bind (wpAny_load ho ?_)
       rw [hc, hd]
       show wpAny M A (if (["enumerate", "zip", "dict_itemiterator", "dict_reverseitemiterator", "odict_iterator", "itertools.zip_longest", "itertools.pairwise"].contains n && vs[0]? == some (rawInt _)) = true then _ else _) Q E s
       rw [if_neg (by intro h; rw [hn, Bool.false_and] at h; cases h)]
       exact wpAny_pure hQ))
noncomputable def Itl(K:PySem.W.Frag)(a:Addr):It:=
 ⟨fun i H=>∃xs x,SqL K H a xs/\xs[i]? =some x,fun i H x H'=>H'=H/\∀xs,SqL K H a xs->xs[i]? =some x,fun i H=>∃xs,SqL K H a xs/\xs.length<=i⟩
noncomputable def Itt(K:PySem.W.Frag)(a:Addr):It:=
 ⟨fun i H=>∃xs x,SqT K H a xs/\xs[i]? =some x,fun i H x H'=>H'=H/\∀xs,SqT K H a xs->xs[i]? =some x,fun i H=>∃xs,SqT K H a xs/\xs.length<=i⟩
noncomputable def Itr(lo:Int)(n:Nat):It:=⟨fun i _=>i < n,fun i H x H'=>H'=H/\x= .int (lo+i),fun i _=>n<=i⟩
theorem zPg{P:Program}{w:World}{K:PySem.W.Frag}{tg:Expr}(a it:Addr):zQ8 P w K tg (Itl K a) [it] it (fun i h=>h.IsListIter it a i) where
 mem:=by simp
 obj:=fun i h st b hb=>by
  have e:b=it:=by simpa using hb
  subst e
  obtain⟨o,e,c,d⟩:=st
  exact⟨o,e,fun v z=>by rw[d]at z;cases z⟩
 keep:=fun i h h' st k=>st.at fun o e=>k it (by simp) o e
 item:=by
  intro X hP hw hK hc i pins s σ H E I hf st hg
  subst hP hw hK
  obtain⟨xs,x,hq,hx⟩:=hg
  obtain⟨its,rv,p,hz⟩:=I.list hq
  obtain⟨u,hu,ru⟩:=rv.get hx
  obtain⟨f0,f1,f2,f3,f4,f5⟩:=hf it (by simp)
  refine wpAny_pyNext_list_item st p.isList (x:=u) (by simpa using hu) fun h' st' sb=>?_
  have I1:Inv X pins σ H {s with heap:=h'}:=I.turned (t':=s.toks) (fun b o hb e=>(sb.2 b hb).trans e) f0 f1 f3 f4 f5
  obtain⟨o,e,c,d⟩:=id st'
  exact⟨u,rfl,zPf (s:={s with heap:=h'}) e c d (by decide) ⟨x,H,I1,ru,⟨rfl,fun ys hy=>by rw[I.list_inj hy hq];exact hx⟩,st',fun b hb=>(hf b hb).1⟩⟩
 done:=by
  intro X hP hw hK hc i pins s σ H E I hf st hg
  subst hP hw hK
  obtain⟨xs,hq,hx⟩:=hg
  obtain⟨its,rv,p,hz⟩:=I.list hq
  obtain⟨f0,f1,f2,f3,f4,f5⟩:=hf it (by simp)
  have hl:=rv.length
  exact wpAny_pyNext_list_end (I.ok.hd hc) st p.isList (by simp;omega) fun h' eb=>⟨rfl,I.turned (t':=s.toks) (fun b o hb e=>eb b o hb e) f0 f1 f3 f4 f5⟩
 self:=fun _ _ _ _ _ st h=>wpAny_pyIter_listiter st h
theorem zOe{P:Program}{w:World}{K:PySem.W.Frag}{tg:Expr}(a it:Addr):zQ8 P w K tg (Itt K a) [it] it (fun i h=>h.IsTupleIter it a i) where
 mem:=by simp
 obj:=fun i h st b hb=>by
  have e:b=it:=by simpa using hb
  subst e
  obtain⟨o,e,c,d⟩:=st
  exact⟨o,e,fun v z=>by rw[d]at z;cases z⟩
 keep:=fun i h h' st k=>st.at fun o e=>k it (by simp) o e
 item:=by
  intro X hP hw hK hc i pins s σ H E I hf st hg
  subst hP hw hK
  obtain⟨xs,x,hq,hx⟩:=hg
  obtain⟨its,rv,p,hz⟩:=I.tuple hq
  obtain⟨u,hu,ru⟩:=rv.get hx
  obtain⟨f0,f1,f2,f3,f4,f5⟩:=hf it (by simp)
  refine wpAny_pyNext_tuple_item st (show s.heap.IsTuple a its.toArray from p) (x:=u) (by simpa using hu) fun h' st' sb=>?_
  have I1:Inv X pins σ H {s with heap:=h'}:=I.turned (t':=s.toks) (fun b o hb e=>(sb.2 b hb).trans e) f0 f1 f3 f4 f5
  obtain⟨o,e,c,d⟩:=id st'
  exact⟨u,rfl,zPf (s:={s with heap:=h'}) e c d (by decide) ⟨x,H,I1,ru,⟨rfl,fun ys hy=>by rw[I.tuple_inj hy hq];exact hx⟩,st',fun b hb=>(hf b hb).1⟩⟩
 done:=by
  intro X hP hw hK hc i pins s σ H E I hf st hg
  subst hP hw hK
  obtain⟨xs,hq,hx⟩:=hg
  obtain⟨its,rv,p,hz⟩:=I.tuple hq
  obtain⟨f0,f1,f2,f3,f4,f5⟩:=hf it (by simp)
  have hl:=rv.length
  exact wpAny_pyNext_tuple_end (I.ok.hd hc) st (show s.heap.IsTuple a its.toArray from p) (by simp;omega) fun h' eb=>⟨rfl,I.turned (t':=s.toks) (fun b o hb e=>eb b o hb e) f0 f1 f3 f4 f5⟩
 self:=fun _ _ _ _ _ st h=>wpAny_pyIter_tupleiter st h
theorem zOf{P:Program}{w:World}{K:PySem.W.Frag}{tg:Expr}(it:Addr)(lo:Int)(n:Nat):zQ8 P w K tg (Itr lo n) [it] it (fun i h=>IsRangeIter h it (lo+ (i:Nat) * 1) ((n:Int) - (i:Nat)) 1) where
 mem:=by simp
 obj:=fun i h st b hb=>by
  have e:b=it:=by simpa using hb
  subst e
  exact⟨_,st,fun v z=>by
   have z':Data.fields _=Data.cell v:=z
   cases z'⟩
 keep:=fun i h h' st k=>k it (by simp) _ st
 item:=by
  intro X hP hw hK hc i pins s σ H E I hf st hg
  subst hP hw hK
  obtain⟨f0,f1,f2,f3,f4,f5⟩:=hf it (by simp)
  have W:=Walks.range (prog:=X.prog) (w:=X.w) (I.ok.hd hc) it lo 1 n
  refine W.item i s _ _ hg st fun v h' tk hv st' kk=>?_
  obtain⟨t,rfl⟩:=hv
  have I1:Inv X pins σ H {s with heap:=h',toks:=tk}:=I.turned (fun b o hb e=>kk b o (by simpa using hb) e) f0 f1 f3 f4 f5
  refine⟨_,rfl,zPf (s:={s with heap:=h',toks:=tk}) (n:="range_iterator") st' rfl rfl (by decide) ⟨.int (lo+i),H,I1,⟨t,?_⟩,⟨rfl,rfl⟩,st',fun b hb=>(hf b hb).1⟩⟩
  rw[Int.mul_one]
 done:=by
  intro X hP hw hK hc i pins s σ H E I hf st hg
  subst hP hw hK
  obtain⟨f0,f1,f2,f3,f4,f5⟩:=hf it (by simp)
  exact wpAny_pyNext_range_end (I.ok.hd hc) st (by have:n<=i:=hg;omega) fun h' eb=>⟨rfl,I.turned (t':=s.toks) (fun b o hb e=>eb b o hb e) f0 f1 f3 f4 f5⟩
 self:=fun _ _ _ _ _ st h=>wpAny_pyIter_rangeiter st h
end L2
namespace L2
open PySem PySem.Spec PyProof.Rows
section
variable {X:Cx} {tg:Expr}
noncomputable def zYk(K:PySem.W.Frag)(tl:TE):TI:=fun σ H R=>tl σ H fun x H1=>∃a,x= .ref a/\(∃xs,SqL K H1 a xs)/\R (Itl K a) H1
noncomputable def yB3(K:PySem.W.Frag)(tl:TE):TI:=fun σ H R=>tl σ H fun x H1=>∃a,x= .ref a/\(∃xs,SqT K H1 a xs)/\R (Itt K a) H1
theorem zBo{l:Expr}{tl:TE}(hl:PE X l tl):PI X tg l (zYk X.K tl):=by
 intro pins s σ H R I h
 refine thn (hl pins s σ H _ I h) fun v s1 ⟨x,H1,I1,r1,q1⟩=>?_
 obtain⟨a,e,⟨xs,hq⟩,q⟩:=q1
 subst e
 cases r1
 obtain⟨its,rv,p,hz⟩:=I1.list hq
 refine wpAny_pyIter_list p.isList ?_
 refine⟨s1.heap.objs.size,[s1.heap.objs.size],_,_,H1,rfl,I1.kept (t':=s1.toks) fun b o e=>Heap.get?_push_of_some _ e,zPg a _,⟨_,Heap.get?_push_size _ rfl,rfl,rfl⟩,fun b hb=>?_,q⟩
 have e:b=s1.heap.objs.size:=by simpa using hb
 subst e
 exact I1.fpOk (Nat.le_refl _) (I1.hok.fresh (Nat.le_refl _))
theorem zS0{l:Expr}{tl:TE}(hl:PE X l tl):PI X tg l (yB3 X.K tl):=by
 intro pins s σ H R I h
 refine thn (hl pins s σ H _ I h) fun v s1 ⟨x,H1,I1,r1,q1⟩=>?_
 obtain⟨a,e,⟨xs,hq⟩,q⟩:=q1
 subst e
 cases r1
 obtain⟨its,rv,p,hz⟩:=I1.tuple hq
 refine wpAny_pyIter_tuple (show s1.heap.IsTuple a its.toArray from p) ?_
 refine⟨s1.heap.objs.size,[s1.heap.objs.size],_,_,H1,rfl,I1.kept (t':=s1.toks) fun b o e=>Heap.get?_push_of_some _ e,zOe a _,⟨_,Heap.get?_push_size _ rfl,rfl,rfl⟩,fun b hb=>?_,q⟩
 have e:b=s1.heap.objs.size:=by simpa using hb
 subst e
 exact I1.fpOk (Nat.le_refl _) (I1.hok.fresh (Nat.le_refl _))
theorem zM2{pins:List (Addr×Obj)}{σ:St}{H:Hp}{s:Shared}{R:It->Hp->Prop}{E:Value->Shared->Prop}{lo hi:Int}{t u v:Tok}{tk:Nat}(I:Inv X pins σ H s)(h1: -(2 ^ 62)<=lo)(h2:lo < 2 ^ 62)(h3: -(2 ^ 62)<=hi)(h4:hi < 2 ^ 62)
  (q:R (Itr lo (hi - lo).toNat) H):wpAny (model X.prog X.w) X.A (pyIter (.ref s.heap.objs.size)) (PIE X pins σ tg R) E {s with heap:=s.heap.push {cls:= .type "range",data:= .fields #[.int lo t,.int hi u,.int 1 v]},toks:=tk}:=by
 refine wpAny_pyIter_range (IsRange.new ..) (small_one h1 h2 h3 h4) ?_
 have I1:Inv X pins σ H {s with heap:=s.heap.push {cls:= .type "range",data:= .fields #[.int lo t,.int hi u,.int 1 v]},toks:=tk}:=I.kept fun b o e=>Heap.get?_push_of_some _ e
 refine⟨(s.heap.push {cls:= .type "range",data:= .fields #[.int lo t,.int hi u,.int 1 v]}).objs.size,[(s.heap.push {cls:= .type "range",data:= .fields #[.int lo t,.int hi u,.int 1 v]}).objs.size],_,_,H,rfl,
  I1.kept (t':=tk) fun b o e=>Heap.get?_push_of_some _ e,zOf _ lo (hi - lo).toNat,?_,fun b hb=>?_,q⟩
 ·have e1:lo+ ((0:Nat):Int) * 1=lo:=by simp
  have e2:(((hi - lo).toNat:Nat):Int) - ((0:Nat):Int)=Builtin.Range.rangeSize lo hi 1:=by rw[rangeSize_one];split <;> omega
  show IsRangeIter _ _ (lo+ ((0:Nat):Int) * 1) ((((hi - lo).toNat:Nat):Int) - ((0:Nat):Int)) 1
  rw[e1,e2]
  exact Heap.get?_push_size _ rfl
 ·have e:b=(s.heap.push {cls:= .type "range",data:= .fields #[.int lo t,.int hi u,.int 1 v]}).objs.size:=by simpa using hb
  subst e
  exact I1.fpOk (Nat.le_refl _) (I1.hok.fresh (Nat.le_refl _))
noncomputable def zYl(ta:TA):TI:=fun σ H R=>ta σ H fun vs H1=>∃j:Int,vs= [.int j]/\-(2 ^ 62)<=j/\j < 2 ^ 62/\R (Itr 0 j.toNat) H1
noncomputable def zYm(ta:TA):TI:=fun σ H R=>ta σ H fun vs H1=>∃i j:Int,vs= [.int i,.int j]/\(-(2 ^ 62)<=i/\i < 2 ^ 62/\-(2 ^ 62)<=j/\j < 2 ^ 62)/\R (Itr i (j - i).toNat) H1
theorem zC1{a:Expr}{ta:TA}{p pos:Pos}(hg:Gl X "range")(hm:X.mg "range" =none)(ha:PA X [a] ta)(hs:starEach [a] X.env= [(false,eval a X.env)]:=by rfl):PI X tg (.Call (.Name "range" p) [a] [] pos) (zYl ta):=by
 intro pins s σ H R I h
 refine Call_ (zHo I hg hm boot_range (PyProof.Rows.callWith_type1 (thn (ha pos pins s σ H _ I h) fun us s1 ⟨vs,H1,I1,r1,q1⟩=>?_) hs rfl))
 obtain⟨j,e,q1,q2,q⟩:=q1
 subst e
 cases r1 with
 | cons r rr=>
  cases rr
  obtain⟨t,rfl⟩:=r
  exact call_range_1 (zM2 I1 (by omega) (by omega) q1 q2 (by simpa using q))
theorem zPh{a b:Expr}{ta:TA}{p pos:Pos}(hg:Gl X "range")(hm:X.mg "range" =none)(ha:PA X [a,b] ta)(hs:starEach [a,b] X.env= [(false,eval a X.env),(false,eval b X.env)]:=by rfl)(hs2:starEach [b] X.env= [(false,eval b X.env)]:=by rfl):
  PI X tg (.Call (.Name "range" p) [a,b] [] pos) (zYm ta):=by
 intro pins s σ H R I h
 refine Call_ (zHo I hg hm boot_range (PyProof.Rows.callWith_type1 (thn (ha pos pins s σ H _ I h) fun us s1 ⟨vs,H1,I1,r1,q1⟩=>?_) (by rw[hs,hs2]) (by rw[hs2];rfl)))
 obtain⟨i,j,e,⟨q1,q2,q3,q4⟩,q⟩:=q1
 subst e
 cases r1 with
 | cons r rr=>
  cases rr with
  | cons r' rr=>
   cases rr
   obtain⟨t,rfl⟩:=r
   obtain⟨t',rfl⟩:=r'
   exact call_range_2 (zM2 I1 q1 q2 q3 q4 q)
noncomputable def yB4(wi:TI)(g:TG)(tb:TS):TS:=fun D σ H=>wi σ H fun J H1=>∃W:Nat->Nat->St->Hp->Prop,(∃m,W 0 m σ H1)/\∀i m σ H,W i m σ H->
 (J.stop i H/\D.nx σ H)\/(J.go i H/\∃N:St->Hp->Prop,(∀σ' H',N σ' H'->∃m',m' < m/\W (i+1) m' σ' H')/\∀x H',J.yld i H x H'->g x σ H' fun σ2 H2=>tb {D with nx:=N,ct:=N,bk:=D.nx} σ2 H2)
noncomputable def zIv(fp:List Addr)(h:Heap):List (Addr×Obj):=fp.filterMap fun b=>(h.get? b).map fun o=>(b,o)
theorem zEo{fp:List Addr}{h:Heap}{b:Addr}{o:Obj}(hb:b∈fp)(e:h.get? b=some o):(b,o)∈zIv fp h:=List.mem_filterMap.mpr ⟨b,hb,by rw[e];rfl⟩
theorem zPi{fp:List Addr}{h:Heap}{p:Addr×Obj}(hp:p∈zIv fp h):p.1∈fp/\h.get? p.1=some p.2:=by
 obtain⟨b,hb,e⟩:=List.mem_filterMap.mp hp
 cases q:h.get? b with
 | none=>rw[q]at e;cases e
 | some o=>
  rw[q]at e
  have e':(b,o)=p:=Option.some.inj e
  subst e'
  exact⟨hb,q⟩
theorem Inv.pinned{pins:List (Addr×Obj)}{σ:St}{H:Hp}{s:Shared}{fp:List Addr}(I:Inv X pins σ H s)(hf:∀b∈fp,zL7 X pins H b)(ho:∀b∈fp,∃o,s.heap.get? b=some o/\∀v,o.data≠.cell v):Inv X (pins++zIv fp s.heap) σ H s:=
 I.pins_of fun p hp=>(List.mem_append.mp hp).elim (fun z=>I.pin p (List.mem_append_right _ z)) fun z=>by
  obtain⟨hb,e⟩:=zPi z
  obtain⟨f0,f1,f2,_⟩:=hf p.1 hb
  obtain⟨o,e',d⟩:=ho p.1 hb
  rw[e]at e';cases e'
  exact⟨e,f0,f1,f2,d⟩
theorem Inv.unpinned{pins pl:List (Addr×Obj)}{σ:St}{H:Hp}{s:Shared}(I:Inv X (pins++pl) σ H s):Inv X pins σ H s:=I.pins_of fun p hp=>I.pin p (List.mem_append_right _ (List.mem_append_left _ hp))
theorem zC9{iter:Expr}{body:List Stmt}{wi:TI}{g:TG}{tb:TS}{pos:Pos}(hp:PassesOwn (model X.prog X.w) X.A X.env X.xe)(hc:X.calm=true)(hi:PI X tg iter wi)(hg:PG X tg g)(hb:PSs X body tb)
  (hs:∀x,foldedSetIterable iter X.env x=pure x:=by intro _;rfl):PS X (.For tg iter body [] pos) (yB4 wi g tb):=by
 intro pins s σ H D I h
 refine wpAny_For (thn (hi pins s σ H _ I h) fun v s1 h1=>thn h1 fun itv s2 h2=>?_) hs
 obtain⟨it,fp,tn,J,H2,e,I2,T,st2,f2,W,⟨m0,w0⟩,turn⟩:=h2
 subst e
 have stat:∀{H':Hp},(∀b∈fp,H' b=none)->∀b∈fp,zL7 X pins H' b:=fun hn b hb=>⟨hn b hb,(f2 b hb).2⟩
 refine codeAny_forLoop_any (fun n s'=>∃i σ' H',Inv X pins σ' H' s'/\tn i s'.heap/\(∀b∈fp,H' b=none)/\W i n σ' H') ?_ m0 ⟨0,σ,H2,I2,st2,fun b hb=>(f2 b hb).1,w0⟩
 rintro n s3 ⟨i,σ3,H3,I3,st3,fr3,w3⟩
 rcases turn i n σ3 H3 w3 with⟨stop,qn⟩ | ⟨go,N,hN,step⟩
 ·refine wpAny_passesOwn hp (thn (T.done X rfl rfl rfl hc i pins s3 σ3 H3 X.xe I3 (stat fr3) st3 stop) fun r s4 ⟨hr,I4⟩=>?_)
  subst hr
  exact wpAny_execs_nil ⟨σ3,H3,I4,qn⟩
 ·refine wpAny_passesOwn hp (thn (T.item X rfl rfl rfl hc i pins s3 σ3 H3 X.xe I3 (stat fr3) st3 go) fun r s4 ⟨u,hr,h4⟩=>?_)
  subst hr
  refine wpAny_passesOwn hp (thn h4 fun _ s5 ⟨x,H5,I5,r5,y5,st5,fr5⟩=>?_)
  have I5':=I5.pinned (stat fr5) (T.obj _ _ st5)
  refine wpAny_passesOwn hp (thn (hg _ s5 σ3 H5 x u _ I5' r5 (step x H5 y5)) fun _ s6 ⟨σ6,H6,I6,q6⟩=>?_)
  refine wpAny_passesOwn hp (thn (hb _ s6 σ6 H6 _ I6 q6) fun f s7 q7=>?_)
  have again:∀{σ7:St} {H7:Hp},Inv X (pins++zIv fp s5.heap) σ7 H7 s7->N σ7 H7->∃m,m < n/\∃i σ' H',Inv X pins σ' H' s7/\tn i s7.heap/\(∀b∈fp,H' b=none)/\W i m σ' H':=fun {σ7 H7} I7 n7=>by
   obtain⟨m',hm,w7⟩:=hN σ7 H7 n7
   refine⟨m',hm,i+1,σ7,H7,I7.unpinned,T.keep _ _ _ st5 fun b hb o e=>(I7.pin (b,o) (List.mem_append_right _ (List.mem_append_right _ (zEo hb e)))).1,fun b hb=>?_,w7⟩
   obtain⟨o,e,d⟩:=T.obj _ _ st5 b hb
   exact(I7.pin (b,o) (List.mem_append_right _ (List.mem_append_right _ (zEo hb e)))).2.1
  cases f with
  | next=>obtain⟨σ7,H7,I7,n7⟩:=q7;exact again I7 n7
  | cont=>obtain⟨σ7,H7,I7,n7⟩:=q7;exact again I7 n7
  | brk=>obtain⟨σ7,H7,I7,q7⟩:=q7;exact⟨σ7,H7,I7.unpinned,q7⟩
  | ret v=>obtain⟨x7,σ7,H7,I7,r7,q7⟩:=q7;exact⟨x7,σ7,H7,I7.unpinned,r7,q7⟩
end
theorem zDx{K:PySem.W.Frag}{a:Addr}{xs:List V}{g:TG}{tb:TS}{D:zMe}{σ:St}{H:Hp}(Pv:Nat->St->Hp->Prop)(h0:Pv 0 σ H)(hl:∀i σ H,i<=xs.length->Pv i σ H->SqL K H a xs)
  (hs:∀i x σ H,xs[i]? =some x->Pv i σ H->g x σ H fun σ2 H2=>tb {D with nx:=Pv (i+1),ct:=Pv (i+1),bk:=D.nx} σ2 H2) (hd:∀σ H,Pv xs.length σ H->D.nx σ H):
  ∃W:Nat->Nat->St->Hp->Prop,(∃m,W 0 m σ H)/\∀i m σ H,W i m σ H->
   ((Itl K a).stop i H/\D.nx σ H)\/((Itl K a).go i H/\∃N:St->Hp->Prop,(∀σ' H',N σ' H'->∃m',m' < m/\W (i+1) m' σ' H')/\∀x H',(Itl K a).yld i H x H'->g x σ H' fun σ2 H2=>tb {D with nx:=N,ct:=N,bk:=D.nx} σ2 H2):=by
 refine⟨fun i m σ H=>m=xs.length - i/\i<=xs.length/\Pv i σ H,⟨xs.length,by simp,Nat.zero_le _,h0⟩,?_⟩
 rintro i m σ H ⟨rfl,hi,p⟩
 have q:=hl i σ H hi p
 by_cases hlt:i < xs.length
 ·refine .inr ⟨⟨xs,xs[i],q,by simp[hlt]⟩,Pv (i+1),fun σ' H' p'=>⟨xs.length - (i+1),by omega,rfl,hlt,p'⟩,fun x H' y=>?_⟩
  obtain⟨e,y⟩:=y
  subst e
  exact hs i x σ _ (y xs q) p
 ·have e:i=xs.length:=by omega
  subst e
  exact .inl ⟨⟨xs,q,Nat.le_refl _⟩,hd σ H p⟩
theorem zPj{K:PySem.W.Frag}{a:Addr}{xs:List V}{g:TG}{tb:TS}{D:zMe}{σ:St}{H:Hp}(Pv:Nat->St->Hp->Prop)(h0:Pv 0 σ H)(hl:∀i σ H,i<=xs.length->Pv i σ H->SqT K H a xs)
  (hs:∀i x σ H,xs[i]? =some x->Pv i σ H->g x σ H fun σ2 H2=>tb {D with nx:=Pv (i+1),ct:=Pv (i+1),bk:=D.nx} σ2 H2) (hd:∀σ H,Pv xs.length σ H->D.nx σ H):
  ∃W:Nat->Nat->St->Hp->Prop,(∃m,W 0 m σ H)/\∀i m σ H,W i m σ H->
   ((Itt K a).stop i H/\D.nx σ H)\/((Itt K a).go i H/\∃N:St->Hp->Prop,(∀σ' H',N σ' H'->∃m',m' < m/\W (i+1) m' σ' H')/\∀x H',(Itt K a).yld i H x H'->g x σ H' fun σ2 H2=>tb {D with nx:=N,ct:=N,bk:=D.nx} σ2 H2):=by
 refine⟨fun i m σ H=>m=xs.length - i/\i<=xs.length/\Pv i σ H,⟨xs.length,by simp,Nat.zero_le _,h0⟩,?_⟩
 rintro i m σ H ⟨rfl,hi,p⟩
 have q:=hl i σ H hi p
 by_cases hlt:i < xs.length
 ·refine .inr ⟨⟨xs,xs[i],q,by simp[hlt]⟩,Pv (i+1),fun σ' H' p'=>⟨xs.length - (i+1),by omega,rfl,hlt,p'⟩,fun x H' y=>?_⟩
  obtain⟨e,y⟩:=y
  subst e
  exact hs i x σ _ (y xs q) p
 ·have e:i=xs.length:=by omega
  subst e
  exact .inl ⟨⟨xs,q,Nat.le_refl _⟩,hd σ H p⟩
theorem zFr{lo:Int}{n:Nat}{g:TG}{tb:TS}{D:zMe}{σ:St}{H:Hp}(Pv:Nat->St->Hp->Prop)(h0:Pv 0 σ H)
  (hs:∀i σ H,i < n->Pv i σ H->g (.int (lo+i)) σ H fun σ2 H2=>tb {D with nx:=Pv (i+1),ct:=Pv (i+1),bk:=D.nx} σ2 H2) (hd:∀σ H,Pv n σ H->D.nx σ H):
  ∃W:Nat->Nat->St->Hp->Prop,(∃m,W 0 m σ H)/\∀i m σ H,W i m σ H->
   ((Itr lo n).stop i H/\D.nx σ H)\/((Itr lo n).go i H/\∃N:St->Hp->Prop,(∀σ' H',N σ' H'->∃m',m' < m/\W (i+1) m' σ' H')/\∀x H',(Itr lo n).yld i H x H'->g x σ H' fun σ2 H2=>tb {D with nx:=N,ct:=N,bk:=D.nx} σ2 H2):=by
 refine⟨fun i m σ H=>m=n - i/\i<=n/\Pv i σ H,⟨n,by simp,Nat.zero_le _,h0⟩,?_⟩
 rintro i m σ H ⟨rfl,hi,p⟩
 by_cases hlt:i < n
 ·refine .inr ⟨hlt,Pv (i+1),fun σ' H' p'=>⟨n - (i+1),by omega,rfl,hlt,p'⟩,fun x H' y=>?_⟩
  obtain⟨e,y⟩:=y
  subst e y
  exact hs i σ _ hlt p
 ·have e:i=n:=by omega
  subst e
  exact .inl ⟨Nat.le_refl _,hd σ H p⟩
end L2
namespace L2
open PySem PySem.Spec PyProof.Rows
noncomputable abbrev R2:=V->V->Hp->VK->Prop
noncomputable def OpR(X:Cx)(f:Value->Value->Sem Value)(r:R2):Prop:=
 ∀(pins:List (Addr×Obj)) (s:Shared) (σ:St) (H:Hp) (x y:V) (v u:Value) (Q:VK),Inv X pins σ H s->RelV x v->RelV y u->r x y H Q->
  wpAny (model X.prog X.w) X.A (f v u) (EP X pins σ Q) X.xe s
noncomputable def UnR(X:Cx)(f:Value->Sem Value)(r:V->Hp->VK->Prop):Prop:=
 ∀(pins:List (Addr×Obj)) (s:Shared) (σ:St) (H:Hp) (x:V) (v:Value) (Q:VK),Inv X pins σ H s->RelV x v->r x H Q->
  wpAny (model X.prog X.w) X.A (f v) (EP X pins σ Q) X.xe s
noncomputable def zFs(X:Cx)(f:Value)(r:List V->Hp->VK->Prop):Prop:=
 ∀(pins:List (Addr×Obj)) (s:Shared) (σ:St) (H:Hp) (xs:List V) (us:List Value) (Q:VK),Inv X pins σ H s->Vals xs us->r xs H Q->
  wpAny (model X.prog X.w) X.A (call f us) (EP X pins σ Q) X.xe s
noncomputable def yB5(X:Cx)(r:V->Hp->(Bool->Hp->Prop)->Prop):Prop:=
 ∀(pins:List (Addr×Obj)) (s:Shared) (σ:St) (H:Hp) (x:V) (v:Value) (Q:Bool->Hp->Prop),Inv X pins σ H s->RelV x v->r x H Q->
  wpAny (model X.prog X.w) X.A (truthy v) (TP X pins σ Q) X.xe s
noncomputable def tOp(r:R2)(ta tb:TE):TE:=fun σ H Q=>ta σ H fun x H1=>tb σ H1 fun y H2=>r x y H2 Q
noncomputable def tUn(r:V->Hp->VK->Prop)(ta:TE):TE:=fun σ H Q=>ta σ H fun x H1=>r x H1 Q
noncomputable def rI(C:Int->Int->Prop)(g:Int->Int->V):R2:=fun x y H Q=>∃i j,x= .int i/\y= .int j/\C i j/\Q (g i j) H
noncomputable def rI0(g:Int->Int->V):R2:=fun x y H Q=>∃i j,x= .int i/\y= .int j/\Q (g i j) H
noncomputable def rU(g:Int->V):V->Hp->VK->Prop:=fun x H Q=>∃i,x= .int i/\Q (g i) H
section
variable {X:Cx} {a b c:Expr} {ta tb tc:TE} {pos:Pos}
theorem zYn(ha:PE X a ta)(hb:PE X b tb){pins:List (Addr×Obj)}{s:Shared}{σ:St}{H:Hp}{R:V->V->Hp->Prop}(I:Inv X pins σ H s)
  (h:ta σ H fun x H1=>tb σ H1 fun y H2=>R x y H2) {Q:Value->Shared->Prop} {f:Value->Value->Sem Value}
  (hf:∀v u s2 x y H2,Inv X pins σ H2 s2->RelV x v->RelV y u->R x y H2->wpAny (model X.prog X.w) X.A (f v u) Q X.xe s2):
  wpAny (model X.prog X.w) X.A (eval a X.env) (fun v s₁=>wpAny (model X.prog X.w) X.A (eval b X.env) (fun u s₂=>wpAny (model X.prog X.w) X.A (f v u) Q X.xe s₂) X.xe s₁) X.xe s:=by
 refine thn (ha pins s σ H _ I h) fun v s1 ⟨x,H1,I1,r1,q1⟩=>?_
 refine thn (hb pins s1 σ H1 _ I1 q1) fun u s2 ⟨y,H2,I2,r2,q2⟩=>?_
 exact hf v u s2 x y H2 I2 r1 r2 q2
theorem zC3{op:Operator}{r:R2}(ho:OpR X (binaryOp op) r)(ha:PE X a ta)(hb:PE X b tb):PE X (.BinOp a op b pos) (tOp r ta tb):=by
 intro pins s σ H Q I h
 exact wpAny_BinOp (zYn ha hb I h fun v u s2 x y H2 I2 rx ry q=>ho pins s2 σ H2 x y v u Q I2 rx ry q)
theorem zIg{op:UnaryOp}{r:V->Hp->VK->Prop}(ho:UnR X (unaryOp op) r)(ha:PE X a ta):PE X (.UnaryOp op a pos) (tUn r ta):=by
 intro pins s σ H Q I h
 exact UnaryOp_ (thn (ha pins s σ H _ I h) fun v s1 ⟨x,H1,I1,r1,q1⟩=>ho pins s1 σ H1 x v Q I1 r1 q1)
theorem opI{f:Value->Value->Sem Value}{C:Int->Int->Prop}{g:Int->Int->Int}
  (rule:∀(i j:Int) (t u:Tok) (s:Shared) (Q:Value->Shared->Prop) (E:Value->Shared->Prop),C i j->Q (.int (g i j) s.toks) {s with toks:=s.toks+1}->wpAny (model X.prog X.w) X.A (f (.int i t) (.int j u)) Q E s):
  OpR X f (rI C fun i j=> .int (g i j)):=by
 intro pins s σ H x y v u Q I rx ry h
 obtain⟨i,j,rfl,rfl,hc,q⟩:=h
 obtain⟨t,rfl⟩:=rx
 obtain⟨t',rfl⟩:=ry
 exact rule i j t t' s _ _ hc ⟨.int (g i j),H,I.tok _,⟨_,rfl⟩,q⟩
theorem yAt{f:Value->Value->Sem Value}{g:Int->Int->Int}
  (rule:∀(i j:Int) (t u:Tok) (s:Shared) (Q:Value->Shared->Prop) (E:Value->Shared->Prop),Q (.int (g i j) s.toks) {s with toks:=s.toks+1}->wpAny (model X.prog X.w) X.A (f (.int i t) (.int j u)) Q E s):
  OpR X f (rI0 fun i j=> .int (g i j)):=by
 intro pins s σ H x y v u Q I rx ry h
 obtain⟨i,j,rfl,rfl,q⟩:=h
 obtain⟨t,rfl⟩:=rx
 obtain⟨t',rfl⟩:=ry
 exact rule i j t t' s _ _ ⟨.int (g i j),H,I.tok _,⟨_,rfl⟩,q⟩
theorem zX3{f:Value->Value->Sem Value}{g:Int->Int->Bool}
  (rule:∀(i j:Int) (t u:Tok) (s:Shared) (Q:Value->Shared->Prop) (E:Value->Shared->Prop),Q (.bool (g i j)) s->wpAny (model X.prog X.w) X.A (f (.int i t) (.int j u)) Q E s):
  OpR X f (rI0 fun i j=> .bl (g i j)):=by
 intro pins s σ H x y v u Q I rx ry h
 obtain⟨i,j,rfl,rfl,q⟩:=h
 obtain⟨t,rfl⟩:=rx
 obtain⟨t',rfl⟩:=ry
 exact rule i j t t' s _ _ ⟨.bl (g i j),H,I,rfl,q⟩
noncomputable def yB6(i j:Int):Prop:=0 < j/\j < 1073741824
noncomputable def CMul(i j:Int):Prop:=(-(2 ^ 64) < i/\i < 2 ^ 64)\/(-(2 ^ 64) < j/\j < 2 ^ 64)
theorem CMul.ok{i j:Int}(h:CMul i j):IntMulOk i j:=by
 rcases h with⟨h1,h2⟩ | ⟨h1,h2⟩
 ·exact .of_left (intBits_le_64 h1 h2)
 ·exact .of_right (intBits_le_64 h1 h2)
theorem zPk:OpR X (binaryOp .Add) (rI0 fun i j=> .int (i+j)):=yAt fun _ _ _ _ _ _ _ q=>add_int q
theorem zKx:OpR X (binaryOp .Sub) (rI0 fun i j=> .int (i - j)):=yAt fun _ _ _ _ _ _ _ q=>sub_int q
theorem zM3:OpR X (binaryOp .Mult) (rI CMul fun i j=> .int (i * j)):=opI fun _ _ _ _ _ _ _ hc q=>mul_int q hc.ok
theorem zMf:OpR X (binaryOp .FloorDiv) (rI yB6 fun i j=> .int (i / j)):=opI fun i j _ _ _ _ _ hc q=>by
 have h1:(0:Int) < j:=hc.1
 have h2:j < 1073741824:=hc.2
 exact floordiv_int (by omega) (by rw[Int.fdiv_eq_ediv_of_nonneg i (by omega)];exact q) (.inl (PyProof.noPylong_small (by omega)))
theorem zKy:OpR X (binaryOp .Mod) (rI (fun _ j=>0 < j) fun i j=> .int (i % j)):=opI fun i j _ _ _ _ _ hc q=>by
 have h1:(0:Int) < j:=hc
 exact mod_int' (by omega) (by rw[Int.fmod_eq_emod_of_nonneg i (by omega)];exact q)
theorem unI{f:Value->Sem Value}{g:Int->Int}
  (rule:∀(i:Int) (t:Tok) (s:Shared) (Q:Value->Shared->Prop) (E:Value->Shared->Prop),Q (.int (g i) s.toks) {s with toks:=s.toks+1}->wpAny (model X.prog X.w) X.A (f (.int i t)) Q E s):
  UnR X f (rU fun i=> .int (g i)):=by
 intro pins s σ H x v Q I rx h
 obtain⟨i,rfl,q⟩:=h
 obtain⟨t,rfl⟩:=rx
 exact rule i t s _ _ ⟨.int (g i),H,I.tok _,⟨_,rfl⟩,q⟩
theorem zE5:UnR X (unaryOp .USub) (rU fun i=> .int (-i)):=unI fun _ _ _ _ _ q=>neg_int q
end
noncomputable def yB7:V->V->Bool
 | .non,.non=>true | .non,.int _=>true | .int _,.non=>true | .non,.bl _=>true | .bl _,.non=>true | .non,.str _=>true | .str _,.non=>true
 | .int _,.int _=>true | .bl _,.bl _=>true | .str _,.str _=>true | .byt _,.byt _=>true
 | .int _,.str _=>true | .str _,.int _=>true | .bl _,.str _=>true | .str _,.bl _=>true
 | _,_=>false
noncomputable def rEq:R2:=fun x y H Q=>yB7 x y=true/\Q (.bl (decide (x=y))) H
theorem zTp{i j:Int}:decide (V.int i=V.int j)=(i == j):=by
 rw[Bool.eq_iff_iff]
 simp
theorem zVn{i j:Bool}:decide (V.bl i=V.bl j)=(i == j):=by
 rw[Bool.eq_iff_iff]
 simp
theorem zTq{i j:Str}:decide (V.str i=V.str j)=(i == j):=by
 rw[Bool.eq_iff_iff]
 simp
theorem zTr{i j:Array UInt8}:decide (V.byt i=V.byt j)=(i.toList == j.toList):=by
 rw[Bool.eq_iff_iff]
 cases i
 cases j
 simp
section
variable {X:Cx} {a b c:Expr} {ta tb tc:TE} {pos:Pos}
theorem zC2{pins:List (Addr×Obj)}{σ:St}{H:Hp}{s:Shared}{Q:VK}{k k':Bool}(I:Inv X pins σ H s)(q:Q (.bl k) H)(e:k=k'):EP X pins σ Q (.bool k') s:=by
 subst e
 exact⟨.bl k,H,I,rfl,q⟩
theorem zIh:OpR X (compareOp .Eq) rEq:=by
 intro pins s σ H x y v u Q I rx ry h
 obtain⟨hs,q⟩:=h
 cases x with
 | non=>
  cases rx
  cases y with
  | non=>cases ry;exact PySem.EqNone.eq_none_none (zC2 I q (by simp))
  | bl j=>cases ry;exact PySem.EqNone.eq_none_bool (zC2 I q (by simp))
  | int j=>obtain⟨t',rfl⟩:=ry;exact PySem.EqNone.eq_none_int (zC2 I q (by simp))
  | str j=>obtain⟨t',rfl⟩:=ry;exact PySem.EqNone.eq_none_str (zC2 I q (by simp))
  | _=>exact absurd (show false=true from hs) Bool.false_ne_true
 | bl i=>
  cases rx
  cases y with
  | non=>cases ry;exact PySem.EqNone.eq_bool_none (zC2 I q (by simp))
  | bl j=>cases ry;exact eq_bool (zC2 I q zVn)
  | str j=>obtain⟨t',rfl⟩:=ry;exact PySem.EqMixed.eq_bool_str (zC2 I q (by simp))
  | _=>exact absurd (show false=true from hs) Bool.false_ne_true
 | int i=>
  obtain⟨t,rfl⟩:=rx
  cases y with
  | non=>cases ry;exact PySem.EqNone.eq_int_none (zC2 I q (by simp))
  | int j=>obtain⟨t',rfl⟩:=ry;exact eq_int (zC2 I q zTp)
  | str j=>obtain⟨t',rfl⟩:=ry;exact PySem.EqMixed.eq_int_str (zC2 I q (by simp))
  | _=>exact absurd (show false=true from hs) Bool.false_ne_true
 | str i=>
  obtain⟨t,rfl⟩:=rx
  cases y with
  | non=>cases ry;exact PySem.EqNone.eq_str_none (zC2 I q (by simp))
  | bl j=>cases ry;exact PySem.EqMixed.eq_str_bool (zC2 I q (by simp))
  | int j=>obtain⟨t',rfl⟩:=ry;exact PySem.EqMixed.eq_str_int (zC2 I q (by simp))
  | str j=>obtain⟨t',rfl⟩:=ry;exact eq_str (zC2 I q zTq)
  | _=>exact absurd (show false=true from hs) Bool.false_ne_true
 | byt i=>
  obtain⟨t,rfl⟩:=rx
  cases y with
  | byt j=>obtain⟨t',rfl⟩:=ry;exact PySem.W.eq_bytes (zC2 I q zTr)
  | _=>exact absurd (show false=true from hs) Bool.false_ne_true
 | _=>cases y <;> exact absurd (show false=true from hs) Bool.false_ne_true
theorem zMg:OpR X (compareOp .Lt) (rI0 fun i j=> .bl (decide (i < j))):=zX3 fun _ _ _ _ _ _ _ q=>lt_int q
theorem zVo:OpR X (compareOp .LtE) (rI0 fun i j=> .bl (decide (i<=j))):=zX3 fun _ _ _ _ _ _ _ q=>le_int q
theorem zF9:OpR X (compareOp .Gt) (rI0 fun i j=> .bl (decide (j < i))):=zX3 fun _ _ _ _ _ _ _ q=>gt_int q
theorem zRh:OpR X (compareOp .GtE) (rI0 fun i j=> .bl (decide (j<=i))):=zX3 fun _ _ _ _ _ _ _ q=>ge_int q
theorem zIw:OpR X (compareOp .Is) (fun x y H Q=>y= .non/\Q (.bl (decide (x= .non))) H):=by
 intro pins s σ H x y v u Q I rx ry h
 obtain⟨rfl,q⟩:=h
 cases ry
 refine is_none_gen (zC2 I q ?_)
 cases x <;> first
  | (cases rx;rfl)
  | (obtain⟨t,rfl⟩:=rx;rfl)
theorem zTs:OpR X (compareOp .IsNot) (fun x y H Q=>y= .non/\Q (.bl (!decide (x= .non))) H):=by
 intro pins s σ H x y v u Q I rx ry h
 obtain⟨rfl,q⟩:=h
 cases ry
 refine isnot_none_gen (zC2 I q ?_)
 cases x <;> first
  | (cases rx;rfl)
  | (obtain⟨t,rfl⟩:=rx;rfl)
theorem zA0(b:Expr){op:CmpOp}(h:op≠.In:=by decide)(h2:op≠.NotIn:=by decide):behindInMarks op b=false:=by
 have e1:(op == CmpOp.In)=false:=by cases op <;> first | rfl | exact absurd rfl h
 have e2:(op == CmpOp.NotIn)=false:=by cases op <;> first | rfl | exact absurd rfl h2
 cases b <;> simp[behindInMarks,e1,e2]
theorem zBd{op:CmpOp}{r:R2}(ho:OpR X (compareOp op) r)(ha:PE X a ta)(hb:PE X b tb)(hm:behindInMarks op b=false):PE X (.Compare a [op] [b] pos) (tOp r ta tb):=by
 intro pins s σ H Q I h
 exact wpAny_Compare1 (zYn ha hb I h fun v u s2 x y H2 I2 rx ry q=>ho pins s2 σ H2 x y v u Q I2 rx ry q) hm
noncomputable def zVp(t:TE):TT:=fun σ H Q=>t σ H fun x H'=>∃k,x= .bl k/\Q k H'
theorem zA6{op:CmpOp}{r:R2}(ho:OpR X (compareOp op) r)(ha:PE X a ta)(hb:PE X b tb)(hm:behindInMarks op b=false):PT X (.Compare a [op] [b] pos) (zVp (tOp r ta tb)):=by
 intro pins s σ H Q I h
 refine wpAny_isTrue_Compare1 (thn (ha pins s σ H _ I h) fun v s1 ⟨x,H1,I1,r1,q1⟩=>thn (hb pins s1 σ H1 _ I1 q1) fun u s2 ⟨y,H2,I2,r2,q2⟩=>
  thn (ho pins s2 σ H2 x y v u _ I2 r1 r2 q2) fun c s3 ⟨z,H3,I3,r3,k,e,q3⟩=>?_) hm
 subst e
 cases r3
 exact wpAny_truthy_bool ⟨H3,I3,q3⟩
noncomputable def zRi(K:PySem.W.Frag)(x:V)(H:Hp)(k:Bool):Prop:=
 match x with
 | .non=>k=false
 | .bl b=>k=b
 | .int i=>k=(i != 0)
 | .str y=>y.length<=sizeLine/\k=((y.length:Int) != 0)
 | .byt y=>y.size<=sizeLine/\k=((y.size:Int) != 0)
 | .ref p=>(∃xs,SqL K H p xs/\k= !xs.isEmpty)\/(∃xs,SqT K H p xs/\k= !xs.isEmpty)\/∃kvs,H p=some (.dK kvs)/\k= !kvs.isEmpty
 | _=>False
theorem zOg{κ:Type}{kvs:List (κ×V)}{vs:List (κ×Value)}(r:KV kvs vs):(!vs.isEmpty)= !kvs.isEmpty:=by
 cases r <;> rfl
theorem zIx{xs:List V}{its:List Value}(r:Vals xs its):(!its.toArray.isEmpty)= !xs.isEmpty:=by
 cases r <;> simp
theorem zM4:(sizeLine:Nat) < 2 ^ 63:=by rw[sizeLine_eq];decide
theorem zS1:yB5 X (fun x H Q=>∃k,zRi X.K x H k/\Q k H):=by
 intro pins s σ H x v Q I rx h
 obtain⟨k,e,q⟩:=h
 have hl:=zM4
 have hs:sizeLine=16777216:=sizeLine_eq
 cases x with
 | non=>
  cases rx
  have e':k=false:=e
  subst e'
  exact truthy_none ⟨H,I,q⟩
 | bl b=>
  cases rx
  have e':k=b:=e
  subst e'
  exact wpAny_truthy_bool ⟨H,I,q⟩
 | int i=>
  obtain⟨t,rfl⟩:=rx
  have e':k=(i != 0):=e
  subst e'
  exact PySem.P.truthy_int ⟨H,I,q⟩
 | str y=>
  obtain⟨t,rfl⟩:=rx
  obtain⟨hy,e'⟩:y.length<=sizeLine/\k=((y.length:Int) != 0):=e
  subst e'
  exact PySem.P.truthy_str (by omega) ⟨H,I.tok _,q⟩
 | byt y=>
  obtain⟨t,rfl⟩:=rx
  obtain⟨hy,e'⟩:y.size<=sizeLine/\k=((y.size:Int) != 0):=e
  subst e'
  exact PySem.W.truthy_bytes (by omega) ⟨H,I.tok _,q⟩
 | ref p=>
  cases rx
  have e':(∃xs,SqL X.K H p xs/\k= !xs.isEmpty)\/(∃xs,SqT X.K H p xs/\k= !xs.isEmpty)\/∃kvs,H p=some (.dK kvs)/\k= !kvs.isEmpty:=e
  rcases e' with⟨xs,hx,e'⟩ | ⟨xs,hx,e'⟩ | ⟨kvs,hx,e'⟩
  ·subst e'
   obtain⟨its,r,pl,hz⟩:=I.list hx
   have hlen:=r.length
   exact wpAny_truthy_list pl.isList (by simp only [List.size_toArray];omega) ⟨H,I.tok _,by rw[zIx r];exact q⟩
  ·subst e'
   obtain⟨its,r,pl,hz⟩:=I.tuple hx
   have hlen:=r.length
   exact truthy_tuple pl (by simp only [List.size_toArray];omega) ⟨H,I.tok _,by rw[zIx r];exact q⟩
  ·subst e'
   obtain⟨hz,hS,vs,r,m⟩:kvs.length<=sizeLine/\(p == sysModules)=false/\∃vs,KV kvs vs/\s.heap.DictOf (zBm X.prog X.w) p vs:=I.hok p _ hx
   have hlen:kvs.length=vs.length:=Paired.length r
   exact wpAny_truthy_dict hS m (by omega) ⟨H,I.tok _,by rw[zOg r];exact q⟩
 | _=>exact(show False from e).elim
theorem zBb(ha:PE X a ta)(he:∀whole,isTrue a X.env whole=(do let v <-whole;standAt a.pos;holding [v] (truthy v))):
  PT X a (fun σ H Q=>ta σ H fun x H'=>∃k,zRi X.K x H' k/\Q k H'):=by
 intro pins s σ H Q I h
 exact isTrue_plain (thn (ha pins s σ H _ I h) fun v s1 ⟨x,H1,I1,r1,q1⟩=>zS1 pins s1 σ H1 x v Q I1 r1 q1) (he _)
theorem zMh{x:V}{us:List Value}(r:Vals [x] us):∃u,us= [u]/\RelV x u:=by
 cases r with
 | cons r1 r2=>cases r2;exact⟨_,rfl,r1⟩
theorem zRj:zFs X (.builtin "abs") (fun xs H Q=>∃i,xs= [.int i]/\Q (.int (if i < 0 then -i else i)) H):=by
 intro pins s σ H xs us Q I r h
 obtain⟨i,rfl,q⟩:=h
 obtain⟨u,rfl,t,rfl⟩:=zMh r
 exact call_abs_int fun u tk=>⟨.int (if i < 0 then -i else i),H,I.tok _,⟨_,rfl⟩,q⟩
end
end L2
namespace L2
open PySem PySem.Spec PyProof.Rows
structure ObjM(h:Heap)(x dx C:Addr)(mA:Str->Option Value):Prop where
 obj:h.get? x=some (PySem.W.instObj C dx)
 ns:h.Ns1 dx mA
 ne:dx≠x
theorem zPl{h:Heap}{dx:Addr}{mA:Str->Option Value}(n:h.Ns1 dx mA):∃od,h.get? dx=some od/\∀name,PySem.W.lookIn name od=some (mA name):=by
 obtain⟨o,es,ep,ho,hd,hk,_,hm⟩:=n
 refine⟨o,ho,fun name=>?_⟩
 have e:=hm name
 unfold nsFind findBy at e
 rw[<-Array.find?_toList]at e
 unfold PySem.W.lookIn
 rw[hd]
 dsimp only
 split
 ·rename_i y q
  rw[q]at e
  exact congrArg some e
 ·rename_i q
  rw[q]at e
  have a:es.toList.any (·.refKey)=false:=by
   rw[List.any_eq_false]
   intro y hy
   obtain⟨z,t,hkey⟩:=hk y (Array.mem_toList_iff.mp hy)
   simp[DictEntry.refKey,hkey]
  have a':¬es.toList.any (·.refKey)=true:=by rw[a];exact Bool.false_ne_true
  rw[if_neg a']
  exact congrArg some e
theorem ObjM.look{h:Heap}{x dx C:Addr}{mA:Str->Option Value}(I:ObjM h x dx C mA):∃od,PySem.W.InstAt h x (PySem.W.instObj C dx) C (some od)/\∀name,PySem.W.lookIn name od=some (mA name):=
 let⟨od,ho,hl⟩:=zPl I.ns
 ⟨od,⟨I.obj,rfl,rfl,ho⟩,hl⟩
section
variable {prog:Program} {w:World} {A:Around} {E:Value->Shared->Prop} {s:Shared} {K:PySem.W.Frag} {x dx C f:Addr} {mA:Str->Option Value} {name:Str} {v:Value}
theorem zTt{expr:Bool}{Q:Value->Shared->Prop}(X:K.In s.heap)(I:ObjM s.heap x dx C mA)(hg:PySem.W.plainGet K C name=true)(hh:PySem.W.hasDictIn K C=true)
  (ha:PySem.W.findIn K (.ref C) name=some none) (hv:mA name=some v) (hv':PySem.W.handedIn v=true) (h:Q v {s with toks:=s.toks+1}):
  wpAny (model prog w) A (getAttr (.ref x) name expr) Q E s:=by
 obtain⟨od,J,hl⟩:=I.look
 exact PySem.W.get_value X J (PySem.W.plainGet_of hg).1 (PySem.W.findObj_own hh ha rfl (by rw[hl,hv])) hv' h
theorem zRk{pl:Sem Bool}{Q:Value×List Value->Shared->Prop}(X:K.In s.heap)(I:ObjM s.heap x dx C mA)(hg:PySem.W.plainGet K C name=true)
  (hf:PySem.W.findIn K (.ref C) name=some (some (.ref f))) (ht:PySem.W.isFn K (.ref f)=true) (hv:mA name=none) (h:Q (.ref f,[.ref x]) s):
  wpAny (model prog w) A (getMethod (.ref x) name pl) Q E s:=by
 obtain⟨od,J,hl⟩:=I.look
 exact PySem.W.method_fn X J (PySem.W.plainGet_of hg).1 (PySem.W.plainGet_of hg).2 hf (beq_iff_eq.mp ht) (by show(PySem.W.lookIn name od).map (·.isSome)=some false;rw[hl,hv];rfl) h
theorem zTu{ns:List Str}{Q:Unit->Shared->Prop}(X:K.In s.heap)(I:ObjM s.heap x dx C mA)
  (hs:PySem.W.findIn K (.ref C) "__setattr__" =some (some (.builtin "object.__setattr__"))) (hp:PySem.W.plainOver K C=true) (ht:PySem.W.takerIn K C name=some none) (hh:PySem.W.hasDictIn K C=true)
  (hw:PySem.Within mA ns) (hsz:ns.length<=sizeLine)
  (h:∀h',ObjM h' x dx C (fun y=>if y=name then some v else mA y)->Heap.SameBut dx s.heap h'->Q () {s with heap:=h',toks:=s.toks+2}):
  wpAny (model prog w) A (setAttr (.ref x) name v) Q E s:=by
 obtain⟨od,J,hl⟩:=I.look
 refine PySem.W.set_plain X J hs (PySem.W.osa_open (s:={s with toks:=s.toks+1}) (r:=none) X J hp ht fun b=>?_)
 obtain⟨cd,hc,hd'⟩:=PySem.W.any_some hh
 have hx:s.heap.get? x=some ⟨.ref C,some dx,.plain,#[]⟩:=I.obj
 refine wpAny_bind (wpAny_pure (wpAny_bind (wpAny_bind (wpAny_loadPart hx (wpAny_bind (PySem.W.Looks.here (s:={s with toks:=s.toks+1}) (PySem.W.looks_clsIn X hc) ?_))))))
 rw[hd']
 refine wpAny_pure (a:=some dx) (wpAny_bind (wpAny_pure (wpAny_bind ?_)))
 refine wpAny_nsSet1 (s:={s with toks:=s.toks+1}) I.ns fun h' hn2 hs2=>?_
 obtain⟨oD,esD,epD,hoD,hdD,hcD⟩:=hn2.count (PySem.Within.cons name v hw)
 refine wpAny_bind (wpAny_lookBehind hoD (by rw[hdD];exact pastItsLine_dict (Nat.le_trans hcD (by rw[List.length_cons];omega))) ?_)
 exact wpAny_pure (h _ ⟨(hs2.2 _ (Ne.symm I.ne)).trans I.obj,hn2,I.ne⟩ hs2)
theorem zRl{R:Result->Shared->Prop}{vs:List Value}{kw:List (Str×Value)}(X:K.In s.heap)(hm:PySem.W.makesIn K C=true)
  (hi:PySem.W.findIn K (.ref C) "__init__" =some (some (.ref f))) (hf:PySem.W.typeIn K (.ref f)=some (.type "function"))
  (h:codeAny (model prog w) (A.under (.builtin "type.__call__" ⟨.ref C::vs,kw⟩)) (.call (.ref f) ⟨.ref (s.heap.objs.size+1)::vs,kw⟩) (PySem.W.InitBack (s.heap.objs.size+1) R)
   {s with heap:=(s.heap.push PySem.W.emptyDict).push (PySem.W.instObj C s.heap.objs.size)}):
  codeAny (model prog w) A (.call (.ref C) ⟨vs,kw⟩) R s:=by
 obtain⟨hh,g,d,t,os⟩:=s
 exact PySem.W.make_core (PySem.W.makes_of X hm) (PySem.W.looks_findIn X hi) (fun self=>PySem.W.bind_fn X self hf) (.inl rfl) h
end
noncomputable def zA9(f:Str)(v:V):List (Str×V)->List (Str×V)
 | []=>[(f,v)]
 | (g,x)::r=>if g=f then(g,v)::r else(g,x)::zA9 f v r
theorem zBr(f g:Str)(v:V):∀fs:List (Str×V),(zA9 f v fs).lookup g=if g=f then some v else fs.lookup g
 | []=>by
  show List.lookup g [(f,v)] = _
  by_cases h:g=f
  ·have hb:(g == f)=true:=beq_iff_eq.mpr h
   simp only [List.lookup,hb,if_pos h]
  ·have hb:(g == f)=false:=beq_eq_false_iff_ne.mpr h
   simp only [List.lookup,hb,if_neg h]
 | (k,x)::r=>by
  have ih:=zBr f g v r
  rw[show zA9 f v ((k,x)::r)=(if k=f then(k,v)::r else(k,x)::zA9 f v r)from rfl]
  by_cases hk:k=f
  ·rw[if_pos hk]
   by_cases h:g=k
   ·have hb:(g == k)=true:=beq_iff_eq.mpr h
    simp only [List.lookup,hb,if_pos (h.trans hk)]
   ·have hb:(g == k)=false:=beq_eq_false_iff_ne.mpr h
    simp only [List.lookup,hb,if_neg (fun e:g=f=>h (e.trans hk.symm))]
  ·rw[if_neg hk]
   by_cases h:g=k
   ·have hb:(g == k)=true:=beq_iff_eq.mpr h
    simp only [List.lookup,hb,if_neg (fun e:g=f=>hk (h.symm.trans e))]
   ·have hb:(g == k)=false:=beq_eq_false_iff_ne.mpr h
    simp only [List.lookup,hb]
    exact ih
theorem zHr(f:Str)(v:V):∀fs:List (Str×V),f∈(zA9 f v fs).map (·.1)/\∀g,g∈fs.map (·.1)->g∈(zA9 f v fs).map (·.1)
 | []=>⟨by simp[zA9],fun g h=>by simp at h⟩
 | (k,x)::r=>by
  obtain⟨i1,i2⟩:=zHr f v r
  rw[show zA9 f v ((k,x)::r)=(if k=f then(k,v)::r else(k,x)::zA9 f v r)from rfl]
  by_cases hk:k=f
  ·rw[if_pos hk]
   subst hk
   exact⟨by simp,fun g h=>by simpa using h⟩
  ·rw[if_neg hk]
   refine⟨?_,fun g h=>?_⟩
   ·rw[List.map_cons]
    exact List.mem_cons_of_mem _ i1
   ·rw[List.map_cons]at h ⊢
    rcases List.mem_cons.mp h with e | e
    ·exact List.mem_cons.mpr (.inl e)
    ·exact List.mem_cons_of_mem _ (i2 g e)
theorem zAt(f:Str)(v:V):∀fs:List (Str×V),(zA9 f v fs).length<=fs.length+1
 | []=>by simp[zA9]
 | (k,x)::r=>by
  have ih:=zAt f v r
  rw[show zA9 f v ((k,x)::r)=(if k=f then(k,v)::r else(k,x)::zA9 f v r)from rfl]
  by_cases hk:k=f
  ·rw[if_pos hk,List.length_cons,List.length_cons];omega
  ·rw[if_neg hk,List.length_cons,List.length_cons];omega
theorem RelO.some_of{v:V}{o:Option Value}(r:RelO (some v) o):∃u,o=some u/\RelV v u:=by
 cases o with
 | none=>exact(show False from r).elim
 | some u=>exact⟨u,rfl,r⟩
theorem RelO.none_of{o:Option Value}(r:RelO none o):o=none:=by
 cases o with
 | none=>rfl
 | some u=>exact(show False from r).elim
theorem zPm{v:V}{u:Value}(r:RelV v u):PySem.W.handedIn u=true:=by
 cases v with
 | non=>cases(show u=Value.none from r);rfl
 | bl b=>cases(show u=Value.bool b from r);rfl
 | int i=>obtain⟨t,e⟩:=(show∃t,u=Value.int i t from r);cases e;rfl
 | str x=>obtain⟨t,e⟩:=(show∃t,u=Value.str x t from r);cases e;rfl
 | byt b=>obtain⟨t,e⟩:=(show∃t,u=Value.bytes b t from r);cases e;rfl
 | flt b=>obtain⟨t,e⟩:=(show∃t,u=Value.float b t from r);cases e;rfl
 | ref a=>cases(show u=Value.ref a from r);rfl
 | ty n=>cases(show u=Value.type n from r);rfl
section
variable {P:Program} {w:World} {H H':Hp} {h h':Heap} {a C dx:Addr} {fs fs':List (Str×V)}
theorem zMi(hok:HOk P w H h)(e:H a=some (.ins C dx fs)):∃mA,ObjM h a dx C mA/\(∀f,RelO (fs.lookup f) (mA f))/\PySem.Within mA (fs.map (·.1))/\fs.length<=1000/\H dx=some (.own a):=by
 obtain⟨d,z,ne,ob,mA,n,r,q⟩:=(show ObjOk P w H h a (.ins C dx fs)from hok a _ e)
 exact⟨mA,⟨ob,n,ne⟩,r,q,z,d⟩
end
structure Cls(K:PySem.W.Frag)(C:Addr):Prop where
 pg:PySem.W.plainGet K C Str.empty=true
 hd:PySem.W.hasDictIn K C=true
 po:PySem.W.plainOver K C=true
 sa:PySem.W.findIn K (.ref C) "__setattr__" =some (some (.builtin "object.__setattr__"))
theorem Cls.get{K:PySem.W.Frag}{C:Addr}(c:Cls K C)(f:Str):PySem.W.plainGet K C f=true:=c.pg
noncomputable def NoAttr(K:PySem.W.Frag)(C:Addr)(f:Str):Prop:=PySem.W.findIn K (.ref C) f=some none
theorem NoAttr.taker{K:PySem.W.Frag}{C:Addr}{f:Str}(n:NoAttr K C f):PySem.W.takerIn K C f=some none:=by
 unfold PySem.W.takerIn
 rw[show PySem.W.findIn K (.ref C) f=some none from n]
 rfl
structure zMj(K:PySem.W.Frag)(C:Addr)(m:Str)(f:Addr):Prop where
 at_:PySem.W.findIn K (.ref C) m=some (some (.ref f))
 fn:PySem.W.isFn K (.ref f)=true
 kp:PySem.W.keepIn K (.ref f)=true
section
variable {X:Cx} {pins:List (Addr×Obj)} {σ:St} {H:Hp} {s:Shared} {a C dx:Addr} {fs:List (Str×V)} {f:Str} {v:V} {A:Around} {E:Value->Shared->Prop}
theorem zIy{b:Bool}{Q:Value->Shared->Prop}(I:Inv X pins σ H s)(e:H a=some (.ins C dx fs))(c:Cls X.K C)(n:NoAttr X.K C f)(l:fs.lookup f=some v)
  (h:∀u s',Inv X pins σ H s'->RelV v u->Q u s'):wpAny (model X.prog X.w) A (getAttr (.ref a) f b) Q E s:=by
 obtain⟨mA,O,r,_,_,_⟩:=zMi I.hok e
 obtain⟨u,hu,ru⟩:=RelO.some_of (v:=v) (o:=mA f) (by rw[<-l];exact r f)
 exact zTt I.kIn O (c.get f) c.hd n hu (zPm ru) (h u _ (I.tok _) ru)
theorem zIz{m:Str}{g:Addr}{pl:Sem Bool}{Q:Value×List Value->Shared->Prop}(I:Inv X pins σ H s)(e:H a=some (.ins C dx fs))(c:Cls X.K C)(k:zMj X.K C m g)(l:fs.lookup m=none)
  (h:Q (.ref g,[.ref a]) s):wpAny (model X.prog X.w) A (getMethod (.ref a) m pl) Q E s:=by
 obtain⟨mA,O,r,_,_,_⟩:=zMi I.hok e
 have hn:mA m=none:=RelO.none_of (by rw[<-l];exact r m)
 exact zRk I.kIn O (c.get m) k.at_ k.fn hn h
theorem zI0{y:V}{u:Value}{Q:Unit->Shared->Prop}(I:Inv X pins σ H s)(e:H a=some (.ins C dx fs))(c:Cls X.K C)(n:NoAttr X.K C f)(hl:fs.length < 1000)(ry:RelV y u)
  (h:∀s',Inv X pins σ (upd H a (.ins C dx (zA9 f y fs))) s'->Q () s'):wpAny (model X.prog X.w) A (setAttr (.ref a) f u) Q E s:=by
 obtain⟨mA,O,r,wi,_,ho⟩:=zMi I.hok e
 have hz:(fs.map (·.1)).length<=sizeLine:=by rw[List.length_map,sizeLine_eq];omega
 refine zTu I.kIn O c.sa c.po n.taker c.hd wi hz fun h' O' sb=>h _ ?_
 have hd:∃o,h'.get? dx=some o:=let⟨o,_,_,e',_⟩:=O'.ns;⟨o,e'⟩
 refine I.write (x:=a) (e:=dx) (by rw[e];exact True.intro) (.inr ho) (fun b q hb z=>(sb.2 b hb).trans z) hd ?_
 refine⟨by rw[zAj O.ne];exact ho,?_,O.ne,O'.obj,_,O'.ns,fun g=>?_,fun g hg=>?_⟩
 ·have:=zAt f y fs;omega
 ·show RelO ((zA9 f y fs).lookup g) (if g=f then some u else mA g)
  rw[zBr]
  by_cases q:g=f
  ·rw[if_pos q,if_pos q];exact ry
  ·rw[if_neg q,if_neg q];exact r g
 ·by_cases q:g=f
  ·rw[q];exact(zHr f y fs).1
  ·refine(zHr f y fs).2 g (wi g fun z=>hg ?_)
   show(if g=f then some u else mA g)=none
   rw[if_neg q];exact z
theorem Inv.made(I:Inv X pins σ H s):Inv X pins σ (upd (upd H s.heap.objs.size (.own (s.heap.objs.size+1))) (s.heap.objs.size+1) (.ins C s.heap.objs.size []))
  {s with heap:=(s.heap.push PySem.W.emptyDict).push (PySem.W.instObj C s.heap.objs.size)}:=by
 have e1:(s.heap.push PySem.W.emptyDict).get? s.heap.objs.size=some PySem.W.emptyDict:=Heap.get?_push_size s.heap rfl
 have e2:((s.heap.push PySem.W.emptyDict).push (PySem.W.instObj C s.heap.objs.size)).get? (s.heap.objs.size+1)=some (PySem.W.instObj C s.heap.objs.size):=by
  have:=Heap.get?_push_size (s.heap.push PySem.W.emptyDict) (o:=PySem.W.instObj C s.heap.objs.size) rfl
  rwa [Heap.size_push]at this
 have e3:(s.heap.push PySem.W.emptyDict).Ns s.heap.objs.size (fun _=>none):=⟨PySem.W.emptyDict,#[],_,e1,rfl,(fun e he=>absurd he (by simp)),fun _=>rfl⟩
 have I1:=I.laid (a:=s.heap.objs.size) (o:= .own (s.heap.objs.size+1)) (h':=s.heap.push PySem.W.emptyDict) (t':=s.toks) (fun b u q=>Heap.get?_push_of_some _ q) (Nat.le_refl _) ⟨_,e1⟩
 refine I1.laid (a:=s.heap.objs.size+1) (o:= .ins C s.heap.objs.size []) (t':=s.toks) (fun b u q=>Heap.get?_push_of_some _ q) (Nat.le_of_eq (Heap.size_push _ _)) ?_
 have ne:s.heap.objs.size≠s.heap.objs.size+1:=Nat.ne_of_lt (Nat.lt_succ_self _)
 refine⟨by rw[zAj ne,zAb],Nat.zero_le _,ne,e2,fun _=>none,(Heap.Ns1.of_empty e3).at fun o q=>Heap.get?_push_of_some _ q,fun _=>True.intro,fun y hy=>absurd rfl hy⟩
theorem zTv{prog:Program}{w:World}{env:Env}{e:Expr}{f:Str}{pos:Pos}{s:Shared}{Q:Value->Shared->Prop}(hb:attributeBase e f env (eval e env)=eval e env)
  (h:wpAny (model prog w) A (eval e env) (fun o s₁=>wpAny (model prog w) A (getAttr o f true) Q E s₁) E s):wpAny (model prog w) A (eval (.Attribute e f pos) env) Q E s:=
 Attribute_any_ h (by rw[arm_eval_Attribute,hb])
end
noncomputable def zX4(K:PySem.W.Frag)(ta:TE)(f:Str):TE:=fun σ H Q=>ta σ H fun x H1=>∃a C dx fs v,x= .ref a/\H1 a=some (.ins C dx fs)/\Cls K C/\NoAttr K C f/\fs.lookup f=some v/\Q v H1
noncomputable def yB8(K:PySem.W.Frag)(ta tv:TE)(f:Str):TS:=fun D σ H=>tv σ H fun y H1=>ta σ H1 fun x H2=>∃a C dx fs,x= .ref a/\H2 a=some (.ins C dx fs)/\Cls K C/\NoAttr K C f/\fs.length < 1000/\
 D.nx σ (upd H2 a (.ins C dx (zA9 f y fs)))
noncomputable def yAu(X:Cx)(op:Operator)(rd:V->V->Hp->VK->Prop):Prop:=
 ∀(pins:List (Addr×Obj)) (s:Shared) (σ:St) (H:Hp) (x y:V) (u v:Value) (Q:VK),Inv X pins σ H s->RelV x u->RelV y v->rd x y H Q->wpAny (model X.prog X.w) X.A (inplaceOp op u v) (EP X pins σ Q) X.xe s
noncomputable def zTw(K:PySem.W.Frag)(ta tv:TE)(rd:V->V->Hp->VK->Prop)(f:Str):TS:=fun D σ H=>ta σ H fun x H1=>∃a C dx fs v,x= .ref a/\H1 a=some (.ins C dx fs)/\Cls K C/\NoAttr K C f/\fs.lookup f=some v/\
 tv σ H1 fun y H2=>rd v y H2 fun z H3=>∃dx' fs',H3 a=some (.ins C dx' fs')/\fs'.length < 1000/\D.nx σ (upd H3 a (.ins C dx' (zA9 f z fs')))
section
variable {X:Cx} {o e value:Expr} {f:Str} {pos pos' tpos:Pos} {ta tv:TE}
theorem zAl(he:PE X e ta)(hb:attributeBase e f X.env (eval e X.env)=eval e X.env):PE X (.Attribute e f pos) (zX4 X.K ta f):=by
 intro pins s σ H Q I h
 refine zTv hb (thn (he pins s σ H _ I h) fun u s1 ⟨x,H1,I1,rx,a,C,dx,fs,v,ex,ea,c,n,l,q⟩=>?_)
 subst ex
 obtain rfl:u=Value.ref a:=rx
 exact zIy I1 ea c n l fun u' s2 I2 ru=>⟨v,H1,I2,ru,q⟩
theorem zBn(ha:PE X o ta)(hv:PE X value tv)(hs:swapsWith value (some (.Attribute o f pos')) pos.line X.env=pure false):PS X (.Assign [.Attribute o f pos'] value pos) (yB8 X.K ta tv f):=by
 intro pins s σ H D I h
 refine plainObj_wpAny_Assign_Attribute (thn (hv pins s σ H _ I h) fun u s1 ⟨y,H1,I1,ry,q⟩=>thn (ha pins s1 σ H1 _ I1 q) fun ov s2 ⟨x,H2,I2,rx,a,C,dx,fs,ex,ea,c,n,l,q2⟩=>?_) hs
 subst ex
 obtain rfl:ov=Value.ref a:=rx
 exact zI0 I2 ea c n l ry fun s3 I3=>⟨σ,_,I3,q2⟩
theorem zPn{op:Operator}{rd:V->V->Hp->VK->Prop}(ha:PE X o ta)(hv:PE X value tv)(hop:yAu X op rd):PS X (.AugAssign (.Attribute o f tpos) op value pos) (zTw X.K ta tv rd f):=by
 intro pins s σ H D I h
 refine wpAny_AugAssign_AttributeAny (thn (ha pins s σ H _ I h) fun ov s1 ⟨x,H1,I1,rx,a,C,dx,fs,v,ex,ea,c,n,l,q⟩=>?_)
 subst ex
 obtain rfl:ov=Value.ref a:=rx
 refine zIy I1 ea c n l fun u s2 I2 ru=>thn (hv pins s2 σ H1 _ I2 q) fun w3 s3 ⟨y,H2,I3,ry,q3⟩=>thn (hop pins s3 σ H2 v y u w3 _ I3 ru ry q3) fun w4 s4 ⟨z,H3,I4,rz,dx',fs',ea',l',q4⟩=>?_
 exact zI0 I4 ea' c n l' rz fun s5 I5=>⟨σ,_,I5,q4⟩
noncomputable def yB9:V->V->Hp->VK->Prop:=fun x y H Q=>∃i j,x= .int i/\y= .int j/\Q (.int (i+j)) H
theorem zS2:yAu X .Add yB9:=by
 rintro pins s σ H x y u v Q I rx ry ⟨i,j,rfl,rfl,q⟩
 obtain⟨t,rfl⟩:=(show∃t,u=Value.int i t from rx)
 obtain⟨t',rfl⟩:=(show∃t',v=Value.int j t' from ry)
 exact PyProof.Rows.iadd_int ⟨.int (i+j),H,I.tok _,⟨_,rfl⟩,q⟩
end
section
variable {X:Cx} {pins:List (Addr×Obj)} {σ:St} {H:Hp} {s:Shared} {A:Around} {E:Value->Shared->Prop} {Q:Value->Shared->Prop} {c:Value} {b:Bool}
end
end L2
namespace L2
open PySem PySem.Spec PyProof.Rows
structure Room(k:Nat)(A:Around):Prop where
 hd:A.handled=none
 dp:A.depth+3 * k+5 < recursionLimit
 un:A.units+16 * k+200 < cLine
theorem Room.mono{j k:Nat}{A:Around}(r:Room k A)(h:j<=k):Room j A:=⟨r.hd,by have:=r.dp;omega,by have:=r.un;omega⟩
theorem Room.deeper{k:Nat}{A:Around}(r:Room (k+1) A)(env:Env):Room k (A.deeper env):=
 ⟨r.hd,by have:=r.dp;show A.depth+1+3 * k+5 < _;omega,by have:=r.un;show A.units+3+16 * k+200 < _;omega⟩
theorem zOh{A:Around}{C:Addr}{us:List Value}{kw:List (Str×Value)}:(A.under (.builtin "type.__call__" ⟨.ref C::us,kw⟩)).depth=A.depth+1:=by
 first | rfl | simp[Around.under,Code.weight,Code.isCreation,Code.isGuard,Code.isCaller,Code.frames,Code.isFrame,guardIds]
theorem zOi{A:Around}{C:Addr}{us:List Value}{kw:List (Str×Value)}:(A.under (.builtin "type.__call__" ⟨.ref C::us,kw⟩)).units=A.units+1:=by
 first | rfl | simp[Around.under,Code.cUnits,Code.frames,Code.isFrame]
theorem Room.make{k:Nat}{A:Around}(r:Room (k+1) A)(C:Addr)(us:List Value)(kw:List (Str×Value)):Room k (A.under (.builtin "type.__call__" ⟨.ref C::us,kw⟩)):=
 ⟨r.hd,by have:=r.dp;rw[zOh];omega,by have:=r.un;rw[zOi];omega⟩
theorem Room.depth{k:Nat}{A:Around}(r:Room k A):A.depth < recursionLimit:=by have:=r.dp;omega
theorem Room.units{k:Nat}{A:Around}(r:Room k A):A.units+64 < cLine:=by have:=r.un;omega
theorem Room.units0{k:Nat}{A:Around}(r:Room k A):A.units < cLine:=by have:=r.un;omega
noncomputable def zMk:TA:=fun _ H Q=>Q [] H
noncomputable def zEb(ta:TE)(tr:TA):TA:=fun σ H Q=>ta σ H fun x H1=>tr σ H1 fun xs H2=>Q (x::xs) H2
section
variable {X:Cx} {e:Expr} {es:List Expr} {te:TE} {t:TA} {pos:Pos}
theorem zAd:PA X [] zMk:=fun _ _ _ _ H Q I h=>Calls.spliced_nil ⟨[],H,I,.nil,h⟩
theorem zAa(ha:PE X e te)(hr:PA X es t)(hs:starEach (e::es) X.env=(false,eval e X.env)::starEach es X.env:=by rfl):PA X (e::es) (zEb te t):=by
 intro pos pins s σ H Q I h
 rw[hs]
 show wpAny _ _ (spliced ((false,eval e X.env)::backTo pos (starEach es X.env))) _ _ s
 refine Calls.spliced_cons (thn (ha pins s σ H _ I h) fun u s1 ⟨x,H1,I1,r1,q1⟩=>?_)
 exact thn (hr pos pins s1 σ H1 _ I1 q1) fun us s2 ⟨xs,H2,I2,r2,q2⟩=>⟨x::xs,H2,I2,.cons r1 r2,q2⟩
noncomputable def yCa(t:TA):TE:=fun σ H Q=>t σ H fun xs H1=>xs.length<=sizeLine/\∀p,H1 p=none->Q (.ref p) (upd H1 p (.tup xs))
noncomputable def yCb(t:TA):TE:=fun σ H Q=>t σ H fun xs H1=>xs.length<=sizeLine/\∀p,H1 p=none->Q (.ref p) (upd H1 p (.lst xs))
theorem zKz{x1}(h:PA X es t):PE X (.Tuple es x1 pos) (yCa t):=by
 intro pins s σ H Q I hq
 refine wpAny_Tuple_spliced (thn (h pos pins s σ H _ I hq) fun us s1 ⟨xs,H1,I1,r,z,q⟩=>⟨by rw[<-r.length];exact z,?_⟩)
 have hf:H1 s1.heap.objs.size=none:=I1.hok.fresh (Nat.le_refl _)
 refine⟨.ref s1.heap.objs.size,upd H1 s1.heap.objs.size (.tup xs),I1.laid (t':=s1.toks) (fun b u e=>Heap.get?_push_of_some _ e) (Nat.le_refl _) ?_,rfl,q _ hf⟩
 exact⟨z,us,r,⟨_,Heap.get?_push_size _ rfl,rfl,_,rfl⟩⟩
theorem zA4(h:PA X es t):PE X (.List es pos) (yCb t):=by
 intro pins s σ H Q I hq
 refine wpAny_List_spliced (thn (h pos pins s σ H _ I hq) fun us s1 ⟨xs,H1,I1,r,z,q⟩=>⟨by rw[<-r.length];exact z,?_⟩)
 have hf:H1 s1.heap.objs.size=none:=I1.hok.fresh (Nat.le_refl _)
 refine⟨.ref s1.heap.objs.size,upd H1 s1.heap.objs.size (.lst xs),I1.laid (t':=s1.toks) (fun b u e=>Heap.get?_push_of_some _ e) (Nat.le_refl _) ?_,rfl,q _ hf⟩
 exact⟨z,us,0,r,Heap.get?_push_size _ rfl⟩
end
noncomputable abbrev Sp:=List V->Hp->VK->XK->Prop
noncomputable abbrev CXT:=List Env->Hp->Shared->XK->Value->Shared->Prop
structure Env0(P:Program)(w:World)(K:PySem.W.Frag)(mg:Str->Option Value)(base:Heap)(A:Around)(outer:List Env)(s:Shared)(H:Hp):Prop where
 frames:A.frames=some outer
 mod:Mod K mg base
 bs:∀b o,base.get? b=some o->s.heap.get? b=some o/\H b=none
 bsz:base.objs.size<=s.heap.objs.size
 funs:s.heap.FunFrames base outer
 frf:∀b∈frs outer,H b=none
 hok:HOk P w H s.heap
 bare:AllBare s.gens
noncomputable def CE(outer:List Env)(P:Program)(w:World)(H:Hp)(s:Shared)(Q:VK)(u:Value)(s':Shared):Prop:=
 ∃v H',s'.os=s.os/\AllBare s'.gens/\Un (frs outer) [] H H' s.heap s'.heap/\HOk P w H' s'.heap/\RelV v u/\Q v H'
noncomputable def CR(CX:CXT)(outer:List Env)(P:Program)(w:World)(H:Hp)(s:Shared)(Q:VK)(E:XK)(r:Result)(s':Shared):Prop:=
 match r with
 | .ok (.ret u)=>CE outer P w H s Q u s'
 | .ok _=>False
 | .error e=>CX outer H s E e s'
structure FnOk(P:Program)(w:World)(K:PySem.W.Frag)(mg:Str->Option Value)(base:Heap)(CX:CXT)(k:Nat)(f:Addr)(fd:FuncData)(ps:List Str)(sp:Sp):Prop where
 len:∀vs H Q E,sp vs H Q E->vs.length=ps.length
 run:∀(A:Around) (outer:List Env) (s:Shared) (H:Hp) (args:Args) (us:List Value) (vs:List V) (Q:VK) (E:XK),Room k A->Env0 P w K mg base A outer s H->BindsTo s fd args (ps.zip us)->Vals vs us->sp vs H Q E->
  codeAny (model P w) A (.call (.ref f) args) (CR CX outer P w H s Q E) s
theorem FnOk.mono{P:Program}{w:World}{K:PySem.W.Frag}{mg:Str->Option Value}{base:Heap}{CX:CXT}{j k:Nat}{f:Addr}{fd:FuncData}{ps:List Str}{sp:Sp}(F:FnOk P w K mg base CX j f fd ps sp)(h:j<=k):
  FnOk P w K mg base CX k f fd ps sp:=⟨F.len,fun A outer s H args us vs Q E hr=>F.run A outer s H args us vs Q E (hr.mono h)⟩
theorem Env0.make{P:Program}{w:World}{K:PySem.W.Frag}{mg:Str->Option Value}{base:Heap}{A:Around}{outer:List Env}{s:Shared}{H:Hp}(e:Env0 P w K mg base A outer s H)(C:Addr)(us:List Value)(kw:List (Str×Value)):
  Env0 P w K mg base (A.under (.builtin "type.__call__" ⟨.ref C::us,kw⟩)) outer s H:=⟨by first | exact e.frames | (simpa [Around.under,Code.envs,Code.isFrame,pushEnvs]using e.frames),e.mod,e.bs,e.bsz,e.funs,e.frf,e.hok,e.bare⟩
section
variable {X:Cx} {pins:List (Addr×Obj)} {σ:St} {H:Hp} {s s':Shared}
theorem Inv.env0(I:Inv X pins σ H s):Env0 X.prog X.w X.K X.mg X.base X.A X.stack s H:=
 ⟨I.ok.frames,I.ok.mod,I.bs,Nat.le_trans I.ok.bsz I.sz,I.stack,I.stkFree,I.hok,I.bare⟩
theorem Inv.after{Q:VK}{u:Value}(I:Inv X pins σ H s)(h:CE X.stack X.prog X.w H s Q u s'):EP X pins σ Q u s':=by
 obtain⟨v,H',os,bare,un,hok,r,q⟩:=h
 obtain⟨hh,g,d,t,os'⟩:=s'
 obtain rfl:os'=s.os:=os
 exact⟨v,H',I.call (h':=hh) (g':=g) (d':=d) (t':=t) (ch:=[]) un hok bare (fun b z=>absurd z (by simp)),r,q⟩
end
noncomputable def zYo(sp:Sp)(dvs:List V)(E:XK)(t:TA):TE:=fun σ H Q=>t σ H fun vs H1=>sp (vs++dvs) H1 Q E
noncomputable def zVq(C:Addr)(m:Str)(sp:Sp)(dvs:List V)(E:XK)(ta:TE)(t:TA):TE:=fun σ H Q=>ta σ H fun x H1=>∃a dx fs,x= .ref a/\H1 a=some (.ins C dx fs)/\fs.lookup m=none/\
 t σ H1 fun vs H2=>sp (x::(vs++dvs)) H2 Q E
noncomputable def zVr(C:Addr)(sp:Sp)(dvs:List V)(E:XK)(t:TA):TE:=fun σ H Q=>t σ H fun vs H1=>∀x dx,H1 x=none->H1 dx=none->dx≠x->
 sp (.ref x::(vs++dvs)) (upd (upd H1 dx (.own x)) x (.ins C dx [])) (fun v H2=>v= .non/\Q (.ref x) H2) E
noncomputable def Binds(K:PySem.W.Frag)(fd:FuncData)(ps:List Str)(ds:List Value):Prop:=
 ∀(s:Shared) (us:List Value),K.In s.heap->(us++ds).length=ps.length->BindsTo s fd ⟨us,[]⟩ (ps.zip (us++ds))
theorem Binds.all{K:PySem.W.Frag}{fd:FuncData}{ps:List Str}(h:∀us:List Value,us.length=ps.length->bindArgs fd ⟨us,[]⟩=pure (ps.zip us)):Binds K fd ps []:=fun s us _ hl=>by
 rw[List.append_nil]at hl ⊢
 exact .of_eq (h us hl)
noncomputable def zGq(CX:CXT)(X:Cx)(E:XK):Prop:=∀(pins:List (Addr×Obj)) (σ:St) (H:Hp) (s:Shared) (e:Value) (s':Shared),Inv X pins σ H s->CX X.stack H s E e s'->X.xe e s'
section
variable {X:Cx} {CX:CXT} {k:Nat} {f C:Addr} {fd:FuncData} {ps:List Str} {sp:Sp} {dvs:List V} {ds:List Value} {E:XK} {x m:Str} {p pos apos:Pos} {e o:Expr} {es:List Expr} {ta:TE} {t:TA}
theorem zM5{pins:List (Addr×Obj)}{σ:St}{H:Hp}{s:Shared}{Q:VK}{us:List Value}{vs:List V}(F:FnOk X.prog X.w X.K X.mg X.base CX k f fd ps sp)(hr:Room k X.A)(hb:Binds X.K fd ps ds)(hd:Vals dvs ds)(hx:zGq CX X E)
  (I:Inv X pins σ H s) (r:Vals vs us) (h:sp (vs++dvs) H Q E):wpAny (model X.prog X.w) X.A (call (.ref f) us) (EP X pins σ Q) X.xe s:=by
 have r2:Vals (vs++dvs) (us++ds):=r.append hd
 have hl:(us++ds).length=ps.length:=by rw[<-r2.length];exact F.len _ _ _ _ h
 refine wpAny_call (codeAny_mono (F.run X.A X.stack s H ⟨us,[]⟩ (us++ds) (vs++dvs) Q E hr I.env0 (hb s us I.kIn hl) r2 h) fun r s' hq=>?_)
 cases r with
 | error e=>exact hx pins σ H s e s' I hq
 | ok fl=>
  cases fl with
  | ret u=>exact I.after hq
  | next=>exact False.elim hq
  | brk=>exact False.elim hq
  | cont=>exact False.elim hq
theorem zTx(F:FnOk X.prog X.w X.K X.mg X.base CX k f fd ps sp)(hr:Room k X.A)(hg:Gl X x)(hm:X.mg x=some (.ref f))(hk:PySem.W.keepIn X.K (.ref f)=true)(hb:Binds X.K fd ps ds)(hd:Vals dvs ds)(hx:zGq CX X E)
  (ha:PA X (e::es) t) (hdb:(x == ("__debug__":Str))=false:=by decide) (he:starEach (e::es) X.env=(false,eval e X.env)::starEach es X.env:=by rfl) (hpl:(backTo pos (starEach es X.env)).any (·.1)=false:=by rfl):
  PE X (.Call (.Name x p) (e::es) [] pos) (zYo sp dvs E t):=by
 intro pins s σ H Q I h
 refine wpAny_Call_Name_kw (zF8 I hg hm ?_ hdb)
 refine PySem.W.callWith_K (h₀:=X.base) I.ok.mod.kin hk (thn (ha pos pins s σ H _ I h) fun us s1 ⟨vs,H1,I1,r,q⟩=>⟨I1.kIn,?_⟩) he hpl
 exact zM5 F hr hb hd hx I1 r q
theorem zTy{pl:Sem Bool}(he:PE X o ta)(c:Cls X.K C)(hm:zMj X.K C m f)(F:FnOk X.prog X.w X.K X.mg X.base CX k f fd ps sp)(hr:Room k X.A)(hb:Binds X.K fd ps ds)(hd:Vals dvs ds)(hx:zGq CX X E)(ha:PA X (e::es) t)
  (hst:starEach (e::es) X.env=(false,eval e X.env)::starEach es X.env:=by rfl) (hpl:(backTo pos (starEach es X.env)).any (·.1)=false:=by rfl)
  (ht:eval (.Call (.Attribute o m apos) (e::es) [] pos) X.env=(do
   let ov <-eval o X.env
   standAt apos.atName
   let(f,first) <-holding [ov] (getMethod ov m pl)
   callWith pos f first (backTo pos (starEach (e::es) X.env)) (backToKw pos (keywordEach [] X.env))):=by rfl):
  PE X (.Call (.Attribute o m apos) (e::es) [] pos) (zVq C m sp dvs E ta t):=by
 intro pins s σ H Q I h
 refine PySem.W.methodCall_KW (pl:=pl) (thn (he pins s σ H _ I h) fun u s1 ⟨x,H1,I1,rx,a,dx,fs,ex,ea,l,q⟩=>?_) ht
 subst ex
 obtain rfl:u=Value.ref a:=rx
 refine zIz I1 ea c hm l ?_
 refine PySem.W.callWith_K (first:=[.ref a]) (h₀:=X.base) I.ok.mod.kin hm.kp (thn (ha pos pins s1 σ H1 _ I1 q) fun us s2 ⟨vs,H2,I2,r,q2⟩=>⟨I2.kIn,?_⟩) hst hpl
 exact zM5 (us:= .ref a::us) (vs:= .ref a::vs) F hr hb hd hx I2 (.cons rfl r) q2
theorem zRm{pl:Sem Bool}(he:PE X o ta)(c:Cls X.K C)(hm:zMj X.K C m f)(F:FnOk X.prog X.w X.K X.mg X.base CX k f fd ps sp)(hr:Room k X.A)(hb:Binds X.K fd ps ds)(hd:Vals dvs ds)(hx:zGq CX X E)
  (ht:eval (.Call (.Attribute o m apos) [] [] pos) X.env=(do
   let ov <-eval o X.env
   standAt apos.atName
   let(f,first) <-holding [ov] (getMethod ov m pl)
   callWith pos f first (backTo pos (starEach [] X.env)) (backToKw pos (keywordEach [] X.env))):=by rfl):
  PE X (.Call (.Attribute o m apos) [] [] pos) (zVq C m sp dvs E ta zMk):=by
 intro pins s σ H Q I h
 refine PySem.W.methodCall_KW (pl:=pl) (thn (he pins s σ H _ I h) fun u s1 ⟨x,H1,I1,rx,a,dx,fs,ex,ea,l,q⟩=>?_) ht
 subst ex
 obtain rfl:u=Value.ref a:=rx
 refine zIz I1 ea c hm l ?_
 exact PySem.W.callWith_K0 (first:=[.ref a]) I1.kIn hm.kp (zM5 (us:=[.ref a]) (vs:=[.ref a]) F hr hb hd hx I1 (.cons rfl .nil) q)
structure Mk(K:PySem.W.Frag)(C f:Addr):Prop where
 makes:PySem.W.makesIn K C=true
 init:PySem.W.findIn K (.ref C) "__init__" =some (some (.ref f))
 fn:PySem.W.isFn K (.ref f)=true
 kp:PySem.W.keepIn K (.ref C)=true
theorem zM6{pins:List (Addr×Obj)}{σ:St}{H:Hp}{s:Shared}{Q:VK}{us:List Value}{vs:List V}(M:Mk X.K C f)(F:FnOk X.prog X.w X.K X.mg X.base CX k f fd ps sp)(hr:Room (k+1) X.A)(hb:Binds X.K fd ps ds)(hd:Vals dvs ds)
  (hx:zGq CX X E) (I:Inv X pins σ H s) (r:Vals vs us)
  (h:∀x dx,H x=none->H dx=none->dx≠x->sp (.ref x::(vs++dvs)) (upd (upd H dx (.own x)) x (.ins C dx [])) (fun v H2=>v= .non/\Q (.ref x) H2) E):
  wpAny (model X.prog X.w) X.A (call (.ref C) us) (EP X pins σ Q) X.xe s:=by
 have hq:=h (s.heap.objs.size+1) s.heap.objs.size (I.hok.fresh (Nat.le_succ _)) (I.hok.fresh (Nat.le_refl _)) (Nat.ne_of_lt (Nat.lt_succ_self _))
 have I2:=Inv.made (C:=C) I
 have r2:Vals (V.ref (s.heap.objs.size+1)::(vs++dvs)) (Value.ref (s.heap.objs.size+1)::(us++ds)):= .cons rfl (r.append hd)
 have hl:(Value.ref (s.heap.objs.size+1)::us++ds).length=ps.length:=by
  have e:=r2.length
  rw[F.len _ _ _ _ hq]at e
  exact e.symm
 refine wpAny_call (zRl (f:=f) I.kIn M.makes M.init (beq_iff_eq.mp M.fn) (codeAny_mono (F.run _ X.stack _ _ ⟨Value.ref (s.heap.objs.size+1)::us,[]⟩ (Value.ref (s.heap.objs.size+1)::(us++ds)) _ _ E (hr.make C us [])
  (I2.env0.make C us []) (hb _ (Value.ref (s.heap.objs.size+1)::us) I2.kIn hl) r2 hq) fun r s' hq'=>?_))
 cases r with
 | error e=>exact hx pins σ _ _ e s' I2 hq'
 | ok fl=>
  cases fl with
  | ret u=>
   obtain⟨v,H',I3,rv,ev,q3⟩:=I2.after hq'
   subst ev
   exact⟨rv,⟨V.ref (s.heap.objs.size+1),H',I3,rfl,q3⟩⟩
  | next=>exact False.elim hq'
  | brk=>exact False.elim hq'
  | cont=>exact False.elim hq'
theorem zTz(M:Mk X.K C f)(F:FnOk X.prog X.w X.K X.mg X.base CX k f fd ps sp)(hr:Room (k+1) X.A)(hg:Gl X x)(hm:X.mg x=some (.ref C))(hb:Binds X.K fd ps ds)(hd:Vals dvs ds)(hx:zGq CX X E)
  (ha:PA X (e::es) t) (hdb:(x == ("__debug__":Str))=false:=by decide) (he:starEach (e::es) X.env=(false,eval e X.env)::starEach es X.env:=by rfl) (hpl:(backTo pos (starEach es X.env)).any (·.1)=false:=by rfl):
  PE X (.Call (.Name x p) (e::es) [] pos) (zVr C sp dvs E t):=by
 intro pins s σ H Q I h
 refine wpAny_Call_Name_kw (zF8 I hg hm ?_ hdb)
 refine PySem.W.callWith_K (h₀:=X.base) I.ok.mod.kin M.kp (thn (ha pos pins s σ H _ I h) fun us s1 ⟨vs,H1,I1,r,q⟩=>⟨I1.kIn,?_⟩) he hpl
 exact zM6 M F hr hb hd hx I1 r q
theorem zRn(M:Mk X.K C f)(F:FnOk X.prog X.w X.K X.mg X.base CX k f fd ps sp)(hr:Room (k+1) X.A)(hg:Gl X x)(hm:X.mg x=some (.ref C))(hb:Binds X.K fd ps ds)(hd:Vals dvs ds)(hx:zGq CX X E)
  (hdb:(x == ("__debug__":Str))=false:=by decide):PE X (.Call (.Name x p) [] [] pos) (zVr C sp dvs E zMk):=by
 intro pins s σ H Q I h
 refine wpAny_Call_Name_kw (zF8 I hg hm ?_ hdb)
 exact PySem.W.callWith_K0 I.kIn M.kp (zM6 (us:=[]) M F hr hb hd hx I .nil h)
end
section
variable {X:Cx} {CX:CXT} {k:Nat} {f C:Addr} {fd:FuncData} {ps ks:List Str} {sp:Sp} {E:XK} {x m:Str} {p pos apos kpos:Pos} {e o:Expr} {es:List Expr} {kws:List Keyword} {te ta:TE} {t tk:TA} {nm:Option Str}
variable {g:List Value->List Value->List Value} {gV:List V->List V->List V}
end
structure zAg(N P:List Str)(sc:Scope):Prop where
 kind:sc.kind= .function
 co:sc.isCoroutine=false
 gen:sc.isGenerator=false
 nd:N.Nodup
 pre:N.take P.length=P
 par:∀x∈P,sc.names.lookup x=some .local\/sc.names.lookup x=some .cell
 nofree:∀y∈sc.names,y.2≠.free
theorem zK0{kindOf:Str->Option NameKind}{x:Str}:∀{binds:List (Str×Value)} {m:Str->Option Value},(∀v,(x,v)∉binds)->bindL kindOf binds m x=m x
 | [],_,_=>rfl
 | (n,v)::r,m,h=>by
  unfold bindL
  rw[zK0 fun w hw=>h w (List.mem_cons_of_mem _ hw)]
  split
  ·have:x≠n:=by rintro rfl;exact h v List.mem_cons_self
   simp[this]
  ·rfl
theorem zK1{kindOf:Str->Option NameKind}{x:Str}:∀{binds:List (Str×Value)} {m:Str->Option Value},(∀v,(x,v)∉binds)->bindC kindOf binds m x=m x
 | [],_,_=>rfl
 | (n,v)::r,m,h=>by
  unfold bindC
  rw[zK1 fun w hw=>h w (List.mem_cons_of_mem _ hw)]
  split
  ·rfl
  ·have:x≠n:=by rintro rfl;exact h v List.mem_cons_self
   simp[this]
theorem zK2{kindOf:Str->Option NameKind}{x:Str}{v:Value}:∀{P:List Str} {vs:List Value} {i:Nat} {m:Str->Option Value},P.Nodup->P[i]? =some x->vs[i]? =some v->kindOf x=some .local->
  bindL kindOf (P.zip vs) m x=some v
 | [],_,_,_,_,h,_,_=>by simp at h
 | _::_,[],_,_,_,_,h,_=>by simp at h
 | p::P,w::vs,0,m,nd,h1,h2,hk=>by
  simp at h1 h2;subst h1;subst h2
  show bindL kindOf ((p,w)::P.zip vs) m p= _
  unfold bindL
  rw[zK0 fun v hv=>(List.nodup_cons.mp nd).1 (List.of_mem_zip hv).1,if_pos hk]
  simp
 | p::P,w::vs,i+1,m,nd,h1,h2,hk=>by
  show bindL kindOf ((p,w)::P.zip vs) m x= _
  unfold bindL
  exact zK2 (i:=i) (List.nodup_cons.mp nd).2 (by simpa using h1) (by simpa using h2) hk
theorem zK3{kindOf:Str->Option NameKind}{x:Str}{v:Value}:∀{P:List Str} {vs:List Value} {i:Nat} {m:Str->Option Value},P.Nodup->P[i]? =some x->vs[i]? =some v->kindOf x≠some .local->
  bindC kindOf (P.zip vs) m x=some v
 | [],_,_,_,_,h,_,_=>by simp at h
 | _::_,[],_,_,_,_,h,_=>by simp at h
 | p::P,w::vs,0,m,nd,h1,h2,hk=>by
  simp at h1 h2;subst h1;subst h2
  show bindC kindOf ((p,w)::P.zip vs) m p= _
  unfold bindC
  rw[zK1 fun v hv=>(List.nodup_cons.mp nd).1 (List.of_mem_zip hv).1,if_neg hk]
  simp
 | p::P,w::vs,i+1,m,nd,h1,h2,hk=>by
  show bindC kindOf ((p,w)::P.zip vs) m x= _
  unfold bindC
  exact zK3 (i:=i) (List.nodup_cons.mp nd).2 (by simpa using h1) (by simpa using h2) hk
noncomputable def start(N:List Str)(vs:List V):St:=vs.map some++List.replicate (N.length - vs.length) none
noncomputable def zL8(CX:CXT)(P:Program)(w:World)(K:PySem.W.Frag)(mg:Str->Option Value)(base:Heap)(N:List Str)(qual:Str)(scope:Scope)(f:Addr)(cd:Value)(A:Around)(outer:List Env)(s:Shared)(H:Hp)(E:XK):Cx where
 prog:=P
 w:=w
 K:=K
 mg:=mg
 base:=base
 A:=A.deeper (envOfC qual scope s.heap.objs.size f cd)
 N:=N
 s_0:=s
 H_0:=H
 env:=envOfC qual scope s.heap.objs.size f cd
 outer:=outer
 stack:=envOfC qual scope s.heap.objs.size f cd::outer
 ex:=[]
 calm:=true
 fn:=fun _=>true
 pn:=[]
 xe:=fun e s'=>wpAny (model P w) (A.deeper (envOfC qual scope s.heap.objs.size f cd)) (leaving (envOfC qual scope s.heap.objs.size f cd) e) (fun _ s''=>CX outer H s E e s'') (fun e' s''=>CX outer H s E e' s'') s'
theorem zM7{sc:Scope}{n:Nat}{x:Str}(h:sc.names.lookup x=some .cell):∃c,(cellsFrom n sc.names []).lookup x=some c:=by
 have q:=PySem.W.cellsFrom_some sc.names n [] (.inl h)
 exact Option.isSome_iff_exists.mp q
theorem zPo{CX:CXT}{P:Program}{w:World}{K:PySem.W.Frag}{mg:Str->Option Value}{base:Heap}{N ps:List Str}{qual:Str}{scope:Scope}{f:Addr}{cd:Value}{A:Around}{outer:List Env}{s s1:Shared}{H:Hp}{E:XK}{us:List Value}{vs:List V}
  (S:zAg N ps scope) (hd:A.handled=none) (e0:Env0 P w K mg base A outer s H) (hl:vs.length=ps.length) (r:Vals vs us)
  (x:InCallC s s.heap.objs.size (bindL (envOfC qual scope s.heap.objs.size f cd).kindOf (ps.zip us) fun _=>none) (cellsFrom (s.heap.objs.size+1) scope.names []) (bindC (envOfC qual scope s.heap.objs.size f cd).kindOf (ps.zip us) fun _=>none) s1):
  Inv (zL8 CX P w K mg base N qual scope f cd A outer s H E) [] (start N vs) H s1:=by
 have hpl:ps.length<=N.length:=by have:=congrArg List.length S.pre;rw[List.length_take]at this;omega
 obtain⟨h1,tk,rfl,hk⟩:=x.done
 have noA:∀b:Addr,b∉(zL8 CX P w K mg base N qual scope f cd A outer s H E).ex:=fun b z=>absurd (show b∈([]:List Addr)from z) (by simp)
 refine⟨⟨e0.mod,S.kind,rfl,rfl,Nat.le_refl _,fun y z c h1 h2=>?_,fun y hy=>?_,fun y c _ h=>?_,fun _=>hd,Around.frames_deeper e0.frames,.inr ⟨rfl,rfl⟩,fun b z=>absurd z (noA b),e0.bs,e0.bsz,fun b _ _=>noA b,fun b z=>absurd z (noA b),e0.funs,e0.frf⟩,
  rfl,e0.bare,Un.kept hk,⟨_,x.toInCall.ns,fun i y v h1 h2 h3=>?_⟩,fun y c h=>⟨_,x.cell y c h⟩,e0.hok.fresh (Nat.le_refl _),fun y c h=>?_,fun p hp=>absurd (show p∈([]:List (Addr×Obj))from hp) (by simp),e0.hok.kept hk,?_⟩
 ·exact name_of_addr x.apart (PySem.mem_of_lookup h1) (PySem.mem_of_lookup h2)
 ·have hy:scope.names.lookup y=some .cell\/scope.names.lookup y=some .free:=hy
  rcases hy with hy | hy
  ·exact zM7 hy
  ·exact absurd rfl (S.nofree _ (PySem.mem_of_lookup hy))
 ·exact Nat.le_of_lt (x.above y c (PySem.mem_of_lookup h))
 ·have hi:i < vs.length:=by
   unfold start at h2
   by_cases hi:i < vs.length
   ·exact hi
   ·rw[List.getElem?_append_right (by simpa using hi)]at h2
    rw[List.getElem?_replicate]at h2
    split at h2 <;> cases h2
  have ha:vs[i]? =some v:=by
   unfold start at h2
   rw[List.getElem?_append_left (by simpa using hi),List.getElem?_map]at h2
   cases e:vs[i]? with
   | none=>rw[e]at h2;cases h2
   | some a=>rw[e]at h2;cases h2;rfl
  obtain⟨u,hu,rv⟩:=r.get ha
  have hp:ps[i]? =some y:=by
   rw[<-S.pre,List.getElem?_take_of_lt (by omega)];exact h1
  have ndP:ps.Nodup:=by rw[<-S.pre];exact S.nd.sublist (List.take_sublist _ _)
  refine⟨u,rv,?_⟩
  rcases S.par y (List.mem_of_getElem? hp)with k | k
  ·exact .inl ⟨k,zK2 ndP hp hu k⟩
  ·obtain⟨c,e⟩:=zM7 (n:=s.heap.objs.size+1) k
   refine .inr ⟨.inl k,c,e,?_⟩
   have q:=x.cell y c e
   rw[zK3 ndP hp hu (by show scope.names.lookup y≠_;rw[k];decide)]at q
   exact q
 ·exact e0.hok.fresh (Nat.le_of_lt (x.above y c (PySem.mem_of_lookup h)))
 ·unfold start
  show _=N.length
  rw[List.length_append,List.length_map,List.length_replicate]
  omega
theorem zVs{CX:CXT}{P:Program}{w:World}{K:PySem.W.Frag}{mg:Str->Option Value}{base:Heap}{k:Nat}{f:Addr}{name qual:Str}{params:Arguments}{body:List Stmt}{scope:Scope}{dV kV doc pm cdv ct oc:Value}{an od:Option Addr}
  {osl:Array (Option Value)} {N ps:List Str} {sp:Sp} (lk:K.lookup f=some ⟨oc,od,.func (PySem.W.fnOf name qual params body scope dV kV doc pm an cdv ct),osl⟩) (hcd:PySem.W.codeIn K cdv qual=true) (S:zAg N ps scope)
  (len:∀vs H Q E,sp vs H Q E->vs.length=ps.length)
  (hbody:∀(A:Around) (outer:List Env) (s:Shared) (H:Hp) (vs:List V) (Q:VK) (E:XK),Room k (A.deeper (envOfC qual scope s.heap.objs.size f cdv))->sp vs H Q E->
   ∃t,PSs (zL8 CX P w K mg base N qual scope f cdv A outer s H E) body t/\t {nx:=fun _ H'=>Q .non H',rt:=Q} (start N vs) H):
  FnOk P w K mg base CX (k+1) f (PySem.W.fnOf name qual params body scope dV kV doc pm an cdv ct) ps sp:=by
 refine⟨len,fun A outer s H args us vs Q E hr e0 hb r hsp=>?_⟩
 have hl:=len _ _ _ _ hsp
 have KX:K.In s.heap:=e0.mod.kin.keeps fun b o e=>(e0.bs b o e).1
 have lim:s.heap.NoLimit:=e0.mod.nolimit.keeps fun b o e=>(e0.bs b o e).1
 have hkind:∀y∈ps.zip us,scope.names.lookup y.1=some .local\/(scope.names.lookup y.1=some .cell/\((cellsFrom (s.heap.objs.size+1) scope.names []).lookup y.1).isSome=true):=fun⟨n,v⟩ hy=>by
  rcases S.par n (List.of_mem_zip hy).1 with q | q
  ·exact .inl q
  ·exact .inr ⟨q,PySem.W.cellsFrom_some _ _ _ (.inl q)⟩
 refine codeAny_call_function hr.depth (KX _ _ lk) rfl S.co S.gen rfl (PySem.W.codeRec_of KX hcd) (hb _ _ _ _ ?_)
 refine wpAny_newFunctionEnv_cells S.kind hkind fun env he s1 x=>?_
 subst he
 refine⟨lim.keeps x.toInCall.keep,codeAny_func ?_⟩
 obtain⟨t,ht,hq⟩:=hbody A outer s H vs Q E (hr.deeper _) hsp
 have I:Inv (zL8 CX P w K mg base N qual scope f cdv A outer s H E) [] (start N vs) H s1:=zPo S hr.hd e0 hl r x
 refine wpAny_mono (ht [] s1 (start N vs) H _ I hq) (fun fl s' hs=>?_) fun e s' hs=>hs
 have fin:∀{σ':St} {H':Hp} {v:V} {u:Value},Inv (zL8 CX P w K mg base N qual scope f cdv A outer s H E) [] σ' H' s'->RelV v u->Q v H'->CE outer P w H s Q u s':=
  fun {σ' H' v u} J rv q=>⟨v,H',J.os,J.bare,J.base,J.hok,rv,q⟩
 cases fl with
 | ret u=>
  obtain⟨v,σ',H',J,rv,q⟩:=hs
  exact fin J rv q
 | next=>
  obtain⟨σ',H',J,q⟩:=hs
  exact fin (v:=V.non) (u:=Value.none) J rfl q
 | brk=>
  obtain⟨_,_,_,q⟩:=hs
  exact False.elim q
 | cont=>
  obtain⟨_,_,_,q⟩:=hs
  exact False.elim q
end L2
namespace L2
open PySem PySem.Spec PyProof.Rows
section
variable {X:Cx} {x:Str} {p pos:Pos} {e:Expr} {es:List Expr} {t:TA} {id T:String} {r:List V->Hp->VK->Prop}
noncomputable def tCB(r:List V->Hp->VK->Prop)(t:TA):TE:=fun σ H Q=>t σ H fun vs H1=>r vs H1 Q
theorem zAn(hc:zFs X (.builtin id) r)(hg:Gl X x)(hm:X.mg x=none)(hv:bootBuiltins x=some (.builtin id))(ha:PA X (e::es) t)(hn:x≠"__name__":=by decide)(hdb:(x == ("__debug__":Str))=false:=by decide)
  (he:starEach (e::es) X.env=(false,eval e X.env)::starEach es X.env:=by rfl) (hpl:(backTo pos (starEach es X.env)).any (·.1)=false:=by rfl):PE X (.Call (.Name x p) (e::es) [] pos) (tCB r t):=by
 intro pins s σ H Q I h
 refine wpAny_Call_Name_kw (zHo I hg hm hv ?_ hn hdb)
 exact PyProof.Rows.callWith_builtin1 (thn (ha pos pins s σ H _ I h) fun us s1 ⟨vs,H1,I1,r1,q1⟩=>hc pins s1 σ H1 vs us Q I1 r1 q1) he hpl
theorem zEe(hc:zFs X (.type T) r)(hg:Gl X x)(hm:X.mg x=none)(hv:bootBuiltins x=some (.type T))(ha:PA X (e::es) t)(hn:x≠"__name__":=by decide)(hdb:(x == ("__debug__":Str))=false:=by decide)
  (he:starEach (e::es) X.env=(false,eval e X.env)::starEach es X.env:=by rfl) (hpl:(backTo pos (starEach es X.env)).any (·.1)=false:=by rfl):PE X (.Call (.Name x p) (e::es) [] pos) (tCB r t):=by
 intro pins s σ H Q I h
 refine wpAny_Call_Name_kw (zHo I hg hm hv ?_ hn hdb)
 exact PyProof.Rows.callWith_type1 (thn (ha pos pins s σ H _ I h) fun us s1 ⟨vs,H1,I1,r1,q1⟩=>hc pins s1 σ H1 vs us Q I1 r1 q1) he hpl
end
end L2
namespace HT
open PySem PyProof.Rows
section
open PySem.SeqAt
open PySem.AutoSeq1 (wpAny_loadPart')
open PySem.MeetsSeq PySem.MeetsSeq2 PySem.MeetsSeq3
end
section
variable {prog:Program} {w:World} {A:Around} {E:Value->Shared->Prop} {s:Shared}
noncomputable def sIx(n d:Nat):Option Int->Nat
 | none=>d
 | some v=>if v < 0 then(v+ (n:Int)).toNat else min v.toNat n
theorem sIx_none(n d:Nat):sIx n d none=d:=rfl
theorem sIx_nat(n d k:Nat):sIx n d (some (k:Int))=min k n:=by
 show(if (k:Int) < 0 then((k:Int) + (n:Int)).toNat else min (k:Int).toNat n)=min k n
 rw[if_neg (by omega),Int.toNat_natCast]
end
end HT
namespace L2
open PySem PySem.Spec PyProof.Rows
noncomputable abbrev TO:=St->Hp->(Option Int->Hp->Prop)->Prop
noncomputable def PO(X:Cx)(e:Option Expr)(t:TO):Prop:=
 ∀(pins:List (Addr×Obj)) (s:Shared) (σ:St) (H:Hp) (Q:Option Int->Hp->Prop),Inv X pins σ H s->t σ H Q->
  wpAny (model X.prog X.w) X.A (evalPart e X.env) (fun u s'=>∃o H',Inv X pins σ H' s'/\IsPart u o/\Q o H') X.xe s
noncomputable def zT0:TO:=fun _ H Q=>Q none H
noncomputable def zYp(t:TE):TO:=fun σ H Q=>t σ H fun x H1=>∃i,x= .int i/\Q (some i) H1
theorem zI1{ns:List Int}:∀{us:List Value},Vals (ns.map V.int) us->IntsAre us ns:=by
 induction ns with
 | nil=>intro us r;rw[List.map_nil]at r;cases r;exact .nil
 | cons n ns ih=>
  intro us r
  rw[List.map_cons]at r
  cases r with
  | cons r1 r2=>
   obtain⟨t,e⟩:=r1
   subst e
   exact .cons n t (ih r2)
section
variable {X:Cx} {e:Expr} {te:TE} {lo hi:Option Expr} {tl th:TO} {pos p2:Pos}
theorem zGa:PO X none zT0:=by
 intro pins s σ H Q I h
 rw[evalPart_none]
 exact wpAny_pure ⟨none,H,I,.none,h⟩
theorem zGb(h:PE X e te):PO X (some e) (zYp te):=by
 intro pins s σ H Q I hw
 rw[evalPart_some]
 refine thn (h pins s σ H _ I hw) fun u s1 ⟨x,H1,I1,r1,q1⟩=>?_
 obtain⟨i,rfl,q⟩:=q1
 obtain⟨t,rfl⟩:=r1
 exact⟨some i,H1,I1,.int i t,q⟩
noncomputable def SlR(X:Cx)(r:V->Option Int->Option Int->Hp->VK->Prop):Prop:=
 ∀(pins:List (Addr×Obj)) (s:Shared) (σ:St) (H:Hp) (x:V) (v vl vu:Value) (lo hi:Option Int) (sl:Addr) (Q:VK),Inv X pins σ H s->RelV x v->s.heap.IsSliceOf sl vl vu .none->IsPart vl lo->IsPart vu hi->r x lo hi H Q->
  ∃T id,typeLookup (.type T) "__getitem__" =pure (some (.builtin id))/\s.TypeIs v T/\wpAny (model X.prog X.w) X.A (getItem v (.ref sl)) (EP X pins σ Q) X.xe s
noncomputable def tSl(r:V->Option Int->Option Int->Hp->VK->Prop)(te:TE)(tl th:TO):TE:=fun σ H Q=>te σ H fun x H1=>tl σ H1 fun l H2=>th σ H2 fun u H3=>r x l u H3 Q
theorem zEp{r:V->Option Int->Option Int->Hp->VK->Prop}(hr:SlR X r)(he:PE X e te)(hl:PO X lo tl)(hu:PO X hi th):PE X (.Subscript e (.Slice lo hi none p2) pos) (tSl r te tl th):=by
 intro pins s σ H Q I h
 refine Subscript_ (thn (he pins s σ H _ I h) fun v s1 ⟨x,H1,I1,r1,q1⟩=>?_)
 refine wpAny_Slice (thn (hl pins s1 σ H1 _ I1 q1) fun vl s2 ⟨l,H2,I2,pl,q2⟩=>thn (hu pins s2 σ H2 _ I2 q2) fun vu s3 ⟨u,H3,I3,pu,q3⟩=>?_)
 rw[evalPart_none]
 refine wpAny_pure ?_
 have I4:Inv X pins σ H3 {s3 with heap:=s3.heap.push {cls:= .type "slice",data:= .fields #[vl,vu,.none]}}:=I3.kept (t':=s3.toks) fun b ob q=>Heap.get?_push_of_some _ q
 obtain⟨T,id,hT,ht,hg⟩:=hr pins {s3 with heap:=s3.heap.push {cls:= .type "slice",data:= .fields #[vl,vu,.none]}} σ H3 x v vl vu l u s3.heap.objs.size Q I4 r1 (Heap.IsSliceOf.new ..) pl pu q3
 show wpAny (model X.prog X.w) X.A (subscriptTail e (.Slice lo hi none p2) v (.ref s3.heap.objs.size)) (EP X pins σ Q) X.xe {s3 with heap:=s3.heap.push {cls:= .type "slice",data:= .fields #[vl,vu,.none]}}
 exact tail_any (ops:=[.ref s3.heap.objs.size,v]) ht hT hg (by with_unfolding_all rfl)
noncomputable def zO4(xs:List V)(lo hi:Option Int):List V:=(xs.drop (HT.sIx xs.length 0 lo)).take (HT.sIx xs.length xs.length hi - HT.sIx xs.length 0 lo)
theorem zMl(xs:List V)(lo hi:Option Int):(zO4 xs lo hi).length<=xs.length:=by
 unfold zO4
 rw[List.length_take,List.length_drop]
 omega
end
end L2
namespace L2
open PySem PySem.Spec PyProof.Rows
noncomputable def ixN(n:Nat)(i:Int):Option Nat:=if 0<=i then(if i < n then some i.toNat else none)else if -(n:Int)<=i then some (i+n).toNat else none
noncomputable def atI{α:Type}(xs:List α)(i:Int):Option α:=(ixN xs.length i).bind fun j=>xs[j]?
theorem zT1{n:Nat}{i:Int}{j:Nat}(h:ixN n i=some j):seqIndex? i n=some j/\j < n/\-(n:Int)<=i/\i < n:=by
 unfold ixN at h
 by_cases h0:0<=i
 ·rw[if_pos h0]at h
  by_cases h1:i < n
  ·rw[if_pos h1]at h
   have e:i.toNat=j:=Option.some.inj h
   exact⟨by rw[seqIndex_of h0 h1,e],by omega,by omega,h1⟩
  ·rw[if_neg h1]at h;cases h
 ·rw[if_neg h0]at h
  by_cases h1: -(n:Int)<=i
  ·rw[if_pos h1]at h
   have e:(i+n).toNat=j:=Option.some.inj h
   exact⟨by rw[seqIndex_neg (by omega) h1,e],by omega,h1,by omega⟩
  ·rw[if_neg h1]at h;cases h
theorem zPp{α:Type}{xs:List α}{i:Int}{v:α}(h:atI xs i=some v):∃j,seqIndex? i xs.length=some j/\xs[j]? =some v/\j < xs.length/\-(xs.length:Int)<=i/\i < xs.length:=by
 unfold atI at h
 cases e:ixN xs.length i with
 | none=>rw[e]at h;cases h
 | some j=>
  rw[e]at h
  obtain⟨h1,h2,h3,h4⟩:=zT1 e
  exact⟨j,h1,h,h2,h3,h4⟩
theorem zAw{α:Type}{xs:List α}{j:Nat}{v:α}(h:xs[j]? =some v):atI xs (j:Int)=some v:=by
 have hj:j < xs.length:=(List.getElem?_eq_some_iff.mp h).1
 have e:ixN xs.length (j:Int)=some j:=by
  unfold ixN
  rw[if_pos (by omega),if_pos (by omega)];simp
 unfold atI;rw[e];exact h
theorem zRo{α:Type}(xs:List α)(v:α):atI (xs++ [v]) (-1)=some v:=by
 have hl:(xs++ [v]).length=xs.length+1:=by simp
 have e:ixN (xs++ [v]).length (-1)=some xs.length:=by
  unfold ixN
  rw[hl,if_neg (by decide),if_pos (by omega)]
  congr 1
  omega
 unfold atI
 rw[e]
 show(xs++ [v])[xs.length]? =some v
 simp
noncomputable def zT2(b:Expr):Prop:=∀o i,subscripted b false o i=operate [o,i] (getItem o i)
noncomputable def IxR(X:Cx)(r:R2):Prop:=
 ∀(value slice:Expr) (pins:List (Addr×Obj)) (s:Shared) (σ:St) (H:Hp) (x y:V) (v u:Value) (Q:VK),Inv X pins σ H s->RelV x v->RelV y u->r x y H Q->
  subscripted slice false v u=operate [v,u] (getItem v u)->wpAny (model X.prog X.w) X.A (subscriptTail value slice v u) (EP X pins σ Q) X.xe s
noncomputable def MtR(X:Cx)(id:String)(r:V->List V->Hp->VK->Prop):Prop:=
 ∀(pins:List (Addr×Obj)) (s:Shared) (σ:St) (H:Hp) (x:V) (xs:List V) (v:Value) (us:List Value) (Q:VK),Inv X pins σ H s->RelV x v->Vals xs us->r x xs H Q->
  wpAny (model X.prog X.w) X.A (call (.builtin id) (v::us)) (EP X pins σ Q) X.xe s
section
variable {X:Cx} {a b:Expr} {ta tb:TE} {pos:Pos}
theorem zBi{r:R2}(hr:IxR X r)(ha:PE X a ta)(hb:PE X b tb)(hs:zT2 b):PE X (.Subscript a b pos) (tOp r ta tb):=by
 intro pins s σ H Q I h
 exact Subscript_ (zYn ha hb I h fun v u s2 x y H2 I2 rx ry q=>hr a b pins s2 σ H2 x y v u Q I2 rx ry q (hs _ _))
noncomputable def yAv(K:PySem.W.Frag):R2:=fun x y H Q=>∃p xs i v,x= .ref p/\y= .int i/\SqL K H p xs/\atI xs i=some v/\Q v H
noncomputable def yAw(K:PySem.W.Frag):R2:=fun x y H Q=>∃p xs i v,x= .ref p/\y= .int i/\SqT K H p xs/\atI xs i=some v/\Q v H
theorem zBj:IxR X (yAv X.K):=by
 intro value slice pins s σ H x y v u Q I rx ry h hs
 obtain⟨p,xs,i,z,rfl,rfl,hq,he,q⟩:=h
 cases rx
 obtain⟨t,rfl⟩:=ry
 obtain⟨its,r,pl,hz⟩:=I.list hq
 obtain⟨j,h1,h2,h3,h4,h5⟩:=zPp he
 obtain⟨w,ew,rw'⟩:=r.get h2
 have hl:=r.length
 have hn:=zM4
 have fin:EP X pins σ Q w s:=⟨z,H,I,rw',q⟩
 by_cases h0:0<=i
 ·have hj:i.toNat=j:=by
   rw[seqIndex_of h0 h5]at h1
   exact Option.some.inj h1
  exact item_listR pl.isList h0 (by omega) (by rw[hj];simpa using ew) fin hs
 ·have hj:(i+ (its.toArray.size:Int)).toNat=j:=by
   rw[seqIndex_neg (by omega) h4]at h1
   rw[List.size_toArray,<-hl]
   exact Option.some.inj h1
  exact subscriptTail_builtinR (x:=w) pl.isList.typeIs slot_list_getitem.lookup
   (wpAny_getItem_list_neg (Q:=fun r s'=>r=w/\EP X pins σ Q r s') pl.isList (by omega) (by rw[List.size_toArray] <;> omega) (by omega) (by rw[hj];simpa using ew) ⟨rfl,fin⟩) hs
theorem zBx:IxR X (yAw X.K):=by
 intro value slice pins s σ H x y v u Q I rx ry h hs
 obtain⟨p,xs,i,z,rfl,rfl,hq,he,q⟩:=h
 cases rx
 obtain⟨t,rfl⟩:=ry
 obtain⟨its,r,pl,hz⟩:=I.tuple hq
 obtain⟨j,h1,h2,h3,h4,h5⟩:=zPp he
 obtain⟨w,ew,rw'⟩:=r.get h2
 have hl:=r.length
 have hn:=zM4
 have fin:EP X pins σ Q w s:=⟨z,H,I,rw',q⟩
 exact subscriptTail_builtinR (x:=w) pl.typeIs slot_tuple_getitem.lookup
  (getItem_tuple (j:=j) (Q:=fun r s'=>r=w/\EP X pins σ Q r s') pl (by omega) (by omega) (by rw[List.size_toArray,<-hl];exact h1) (by simpa using ew) ⟨rfl,fin⟩) hs
theorem zK4(lo hi:Option Int)(n:Nat):(sliceBounds lo hi none n).1=((HT.sIx n 0 lo:Nat):Int)/\(sliceBounds lo hi none n).2.1=((HT.sIx n n hi:Nat):Int)/\(sliceBounds lo hi none n).2.2=1:=by
 refine⟨?_,?_,rfl⟩
 ·cases lo with
  | none=>simp[sliceBounds,HT.sIx]
  | some i=>
   simp only [sliceBounds,HT.sIx,Option.getD_none,show(1:Int) > 0 by decide,if_true]
   by_cases h:i < 0
   ·simp only [h,if_true] <;> omega
   ·simp only [h,if_false] <;> omega
 ·cases hi with
  | none=>simp[sliceBounds,HT.sIx]
  | some i=>
   simp only [sliceBounds,HT.sIx,Option.getD_none,show(1:Int) > 0 by decide,if_true]
   by_cases h:i < 0
   ·simp only [h,if_true] <;> omega
   ·simp only [h,if_false] <;> omega
theorem zJo(its:List Value)(lo hi:Option Int):slicePick its.toArray lo hi none=((its.drop (HT.sIx its.length 0 lo)).take (HT.sIx its.length its.length hi - HT.sIx its.length 0 lo)).toArray:=by
 obtain⟨h1,h2,h3⟩:=zK4 lo hi its.toArray.size
 unfold slicePick
 rw[h1,h2,h3]
 simp only [sliceRange_one,pick_run,List.size_toArray] <;> rfl
noncomputable def yCc(K:PySem.W.Frag):V->Option Int->Option Int->Hp->VK->Prop:=fun x lo hi H Q=>∃a xs,x= .ref a/\SqL K H a xs/\∀p,H p=none->Q (.ref p) (upd H p (.lst (zO4 xs lo hi)))
theorem zGc:SlR X (yCc X.K):=by
 intro pins s σ H x v vl vu lo hi sl Q I rx hs pl pu h
 obtain⟨a,xs,rfl,hx,q⟩:=h
 cases rx
 obtain⟨its,r,ht,hz⟩:=I.list hx
 have hlen:=r.length
 refine⟨"list",_,slot_list_getitem.lookup,ht.isList.typeIs,?_⟩
 refine wpAny_getItem_list_slice ht.isList hs pl pu .none (by simp) ?_ (by rw[List.size_toArray] <;> omega)
 rw[zJo,<-hlen]
 refine⟨.ref s.heap.objs.size,_,I.laid (t':=s.toks) (o:= .lst (zO4 xs lo hi)) (fun b ob q=>Heap.get?_push_of_some _ q) (Nat.le_refl _) ?_,rfl,q _ (I.hok.fresh (Nat.le_refl _))⟩
 exact⟨Nat.le_trans (zMl xs lo hi) hz,_,0,(r.drop (HT.sIx xs.length 0 lo)).take (HT.sIx xs.length xs.length hi - HT.sIx xs.length 0 lo),Heap.get?_push_size _ rfl⟩
noncomputable def zFb:V->Bool
 | .non=>true
 | .bl _=>true
 | .int _=>true
 | .str _=>true
 | _=>false
noncomputable def eqV:V->V->Bool
 | .non,.non=>true
 | .bl a,.bl b=>a == b
 | .bl a,.int b=>(if a then 1 else 0) == b
 | .int a,.bl b=>a == (if b then 1 else 0)
 | .int a,.int b=>a == b
 | .str a,.str b=>a == b
 | _,_=>false
theorem zVt{A:Around}{s:Shared}{y x:V}{u v:Value}(ry:RelV y u)(rx:RelV x v)(fy:zFb y=true)(fx:zFb x=true):SeqAt.EqAt A s u v (eqV y x):=by
 cases y with
 | non=>
  cases ry
  cases x with
  | non=>cases rx;exact SeqAt.EqAt.same _
  | bl b=>cases rx;exact SeqAt.EqAt.none_bool b
  | int b=>obtain⟨t,rfl⟩:=rx;exact SeqAt.EqAt.none_int b t
  | str b=>obtain⟨t,rfl⟩:=rx;exact SeqAt.EqAt.none_str b t
  | _=>exact absurd (show false=true from fx) Bool.false_ne_true
 | bl a=>
  cases ry
  cases x with
  | non=>cases rx;exact SeqAt.EqAt.bool_none a
  | bl b=>cases rx;exact SeqAt.EqAt.bool_bool a b
  | int b=>obtain⟨t,rfl⟩:=rx;exact SeqAt.EqAt.bool_int a b t
  | str b=>obtain⟨t,rfl⟩:=rx;exact SeqAt.EqAt.bool_str a b t
  | _=>exact absurd (show false=true from fx) Bool.false_ne_true
 | int a=>
  obtain⟨t',rfl⟩:=ry
  cases x with
  | non=>cases rx;exact SeqAt.EqAt.int_none a t'
  | bl b=>cases rx;exact SeqAt.EqAt.int_bool a t' b
  | int b=>obtain⟨t,rfl⟩:=rx;exact SeqAt.EqAt.int_int a t' b t
  | str b=>obtain⟨t,rfl⟩:=rx;exact SeqAt.EqAt.int_str a t' b t
  | _=>exact absurd (show false=true from fx) Bool.false_ne_true
 | str a=>
  obtain⟨t',rfl⟩:=ry
  cases x with
  | non=>cases rx;exact SeqAt.EqAt.str_none a t'
  | bl b=>cases rx;exact SeqAt.EqAt.str_bool a t' b
  | int b=>obtain⟨t,rfl⟩:=rx;exact SeqAt.EqAt.str_int a t' b t
  | str b=>obtain⟨t,rfl⟩:=rx;exact SeqAt.EqAt.str_str a t' b t
  | _=>exact absurd (show false=true from fx) Bool.false_ne_true
 | _=>exact absurd (show false=true from fy) Bool.false_ne_true
noncomputable def eqU(x:V)(u:Value):Bool:=match u with
 | .none=>eqV .non x
 | .bool b=>eqV (.bl b) x
 | .int i _=>eqV (.int i) x
 | .str z _=>eqV (.str z) x
 | _=>false
theorem zM8{x y:V}{u:Value}(r:RelV y u)(f:zFb y=true):eqU x u=eqV y x:=by
 cases y with
 | non=>cases r;rfl
 | bl b=>cases r;rfl
 | int i=>obtain⟨t,rfl⟩:=r;rfl
 | str z=>obtain⟨t,rfl⟩:=r;rfl
 | _=>exact absurd (show false=true from f) Bool.false_ne_true
theorem zHs{x:V}:∀{xs:List V} {us:List Value},Vals xs us->xs.all zFb=true->us.any (eqU x)=xs.any fun y=>eqV y x
 | _,_,.nil,_=>rfl
 | y::xs,u::us,.cons r t,f=>by
  rw[List.all_cons,Bool.and_eq_true]at f
  rw[List.any_cons,List.any_cons,zM8 r f.1,zHs t f.2]
theorem zEq{A:Around}{s:Shared}{x:V}{v:Value}(rx:RelV x v)(fx:zFb x=true):∀{xs:List V} {us:List Value},Vals xs us->xs.all zFb=true->∀u∈us,SeqAt.EqAt A s u v (eqU x u)
 | _,_,.nil,_=>fun u hu=>by cases hu
 | y::xs,u::us,.cons r t,f=>fun u' hu=>by
  rw[List.all_cons,Bool.and_eq_true]at f
  rcases List.mem_cons.mp hu with rfl | hu
  ·rw[zM8 r f.1];exact zVt r rx f.1 fx
  ·exact zEq rx fx t f.2 u' hu
noncomputable def inV(x:V)(xs:List V):Bool:=xs.any fun y=>eqV y x
noncomputable def rIn(K:PySem.W.Frag)(neg:Bool):R2:=fun x y H Q=>∃p xs,y= .ref p/\(SqL K H p xs\/SqT K H p xs)/\zFb x=true/\xs.all zFb=true/\Q (.bl (if neg then !inV x xs else inV x xs)) H
theorem zFt:OpR X (compareOp .In) (rIn X.K false):=by
 intro pins s σ H x y v u Q I rx ry h
 obtain⟨p,xs,rfl,hq,fx,fs,q⟩:=h
 cases ry
 rcases hq with hq | hq
 ·obtain⟨its,r,pl,hz⟩:=I.list hq
  refine SeqAt.in_listAt (eqU x) pl.isList (fun w hw=>zEq rx fx r fs w (by simpa using hw)) ⟨.bl _,H,I,rfl,?_⟩
  rw[show its.toArray.any (eqU x)=its.any (eqU x) by simp,zHs r fs]
  exact q
 ·obtain⟨its,r,pl,hz⟩:=I.tuple hq
  refine SeqAt.in_tupleAt (eqU x) pl (fun w hw=>zEq rx fx r fs w (by simpa using hw)) ⟨.bl _,H,I,rfl,?_⟩
  rw[show its.toArray.any (eqU x)=its.any (eqU x) by simp,zHs r fs]
  exact q
theorem zK5:OpR X (compareOp .NotIn) (rIn X.K true):=by
 intro pins s σ H x y v u Q I rx ry h
 obtain⟨p,xs,rfl,hq,fx,fs,q⟩:=h
 cases ry
 rcases hq with hq | hq
 ·obtain⟨its,r,pl,hz⟩:=I.list hq
  refine SeqAt.notIn_listAt (eqU x) pl.isList (fun w hw=>zEq rx fx r fs w (by simpa using hw)) ⟨.bl _,H,I,rfl,?_⟩
  rw[show its.toArray.any (eqU x)=its.any (eqU x) by simp,zHs r fs]
  exact q
 ·obtain⟨its,r,pl,hz⟩:=I.tuple hq
  refine SeqAt.notIn_tupleAt (eqU x) pl (fun w hw=>zEq rx fx r fs w (by simpa using hw)) ⟨.bl _,H,I,rfl,?_⟩
  rw[show its.toArray.any (eqU x)=its.any (eqU x) by simp,zHs r fs]
  exact q
theorem zAk:zFs X (.builtin "len") (fun xs H Q=>∃p ys,xs= [.ref p]/\(SqL X.K H p ys\/SqT X.K H p ys)/\Q (.int ys.length) H):=by
 intro pins s σ H xs us Q I r h
 obtain⟨p,ys,rfl,hq,q⟩:=h
 obtain⟨u,rfl,rx⟩:=zMh r
 cases rx
 have hn:=zM4
 rcases hq with hq | hq
 ·obtain⟨its,r',pl,hz⟩:=I.list hq
  have hlen:=r'.length
  exact Calls.call_len_list pl.isList (by simp only [List.size_toArray] <;> omega) ⟨.int ys.length,H,I.tok _,⟨s.toks+1,by rw[List.size_toArray,hlen]⟩,q⟩
 ·obtain⟨its,r',pl,hz⟩:=I.tuple hq
  have hlen:=r'.length
  exact len_tuple pl (by simp only [List.size_toArray] <;> omega) ⟨.int ys.length,H,I.tok _,⟨s.toks+1,by rw[List.size_toArray,hlen]⟩,q⟩
theorem zJp:zFs X (.type "tuple") (fun xs H Q=>∃p ys,xs= [.ref p]/\((SqL X.K H p ys/\∀l,H l=none->Q (.ref l) (upd H l (.tup ys)))\/(SqT X.K H p ys/\Q (.ref p) H))):=by
 intro pins s σ H xs us Q I r h
 obtain⟨p,ys,rfl,h⟩:=h
 obtain⟨u,rfl,rx⟩:=zMh r
 cases rx
 rcases h with⟨hq,q⟩ | ⟨hq,q⟩
 ·obtain⟨its,r',pl,hz⟩:=I.list hq
  have hlen:=r'.length
  refine call_tuple_list pl.isList (fun h' kp=>?_) (by simp only [List.size_toArray] <;> omega)
  have I1:Inv X pins σ H {s with heap:=h'}:=I.kept (t':=s.toks) kp
  have I2:Inv X pins σ (upd H h'.objs.size (.tup ys)) {s with heap:=h'.push {cls:= .type "tuple",data:= .seq its.toArray}}:=
   I1.laid (t':=s.toks) (fun b o e=>Heap.get?_push_of_some _ e) (Nat.le_refl _) (show ObjOk X.prog X.w _ _ _ (.tup ys)from⟨hz,its,r',IsTup.new _ _⟩)
  exact⟨.ref h'.objs.size,_,I2,rfl,q _ (I1.hok.fresh (Nat.le_refl _))⟩
 ·obtain⟨its,r',pl,hz⟩:=I.tuple hq
  exact call_tuple_same pl ⟨.ref p,H,I,rfl,q⟩
noncomputable def tyV(K:PySem.W.Frag)(T:String)(x:V)(H:Hp):Prop:=match x with
 | .str _=>T= "str"
 | .int _=>T= "int"
 | .ref p=>(T= "list"/\∃xs,SqL K H p xs)\/(T= "tuple"/\∃o,K.lookup p=some o/\o.cls= .type "tuple"/\o.dict=none)\/
   (T= "dict"/\((∃kvs,H p=some (.dK kvs))\/∃kvs,H p=some (.dT kvs)))\/(T= "set"/\∃S n,H p=some (.set S n))
 | _=>False
theorem zVu{pins:List (Addr×Obj)}{σ:St}{H:Hp}{s:Shared}{T:String}{x:V}{v:Value}(I:Inv X pins σ H s)(r:RelV x v)(ty:tyV X.K T x H):
  s.TypeIs v T/\∀a,v= .ref a->∃ob,s.heap.get? a=some ob/\ob.dict=none:=by
 cases x with
 | str z=>
  obtain⟨t,rfl⟩:=r
  cases(show T= "str"from ty)
  exact⟨typeIs_str s z t,fun _ e=>nomatch e⟩
 | int i=>
  obtain⟨t,rfl⟩:=r
  cases(show T= "int"from ty)
  exact⟨typeIs_int s i t,fun _ e=>nomatch e⟩
 | ref p=>
  cases r
  rcases ty with⟨rfl,xs,hq⟩ | ⟨rfl,o,hk,hc,hd⟩ | ⟨rfl,hk⟩ | ⟨rfl,S,n,hk⟩
  ·obtain⟨its,_,pl,_⟩:=I.list hq
   refine⟨pl.isList.typeIs,fun a e=>?_⟩
   cases e
   obtain⟨o,n,e,c,hd,_⟩:=pl
   exact⟨o,e,hd⟩
  ·refine⟨⟨o,I.kIn p o hk,hc⟩,fun a e=>?_⟩
   cases e
   exact⟨o,I.kIn _ o hk,hd⟩
  ·have z:∃o,s.heap.get? p=some o/\o.ExactDict:=by
    rcases hk with⟨kvs,hk⟩ | ⟨kvs,hk⟩
    ·obtain⟨_,_,_,_,o,_,_,e,ex,_⟩:=I.hok p _ hk
     exact⟨o,e,ex⟩
    ·obtain⟨_,_,_,_,o,_,_,e,ex,_⟩:=I.hok p _ hk
     exact⟨o,e,ex⟩
   obtain⟨o,e,ex⟩:=z
   refine⟨⟨o,e,ex.1⟩,fun a e2=>?_⟩
   cases e2
   exact⟨o,e,ex.2.1⟩
  ·obtain⟨o,_,_,_,e,ex,_⟩:=I.hok p _ hk
   refine⟨⟨o,e,ex.1⟩,fun a e2=>?_⟩
   cases e2
   exact⟨o,e,ex.2.1⟩
 | _=>exact False.elim ty
noncomputable def tBM(K:PySem.W.Frag)(T:String)(r:V->List V->Hp->VK->Prop)(to:TE)(t:TA):TE:=fun σ H Q=>to σ H fun x H1=>tyV K T x H1/\t σ H1 fun xs H2=>r x xs H2 Q
variable {o e:Expr} {es:List Expr} {to:TE} {t:TA} {name:Str} {apos cpos:Pos} {T id:String} {r:V->List V->Hp->VK->Prop}
theorem zFc(pa:PlainAttrs T)(slot:Slot T name id)(hty:typeOf (.builtin id)=pure (.type "method_descriptor"))(hm:MtR X id r)(ho:PE X o to)(ha:PA X (e::es) t)
  (hbase:attributeBase o name X.env (eval o X.env)=eval o X.env:=by rfl)
  (hfew:((backTo cpos (starEach (e::es) X.env)).all (fun x=>!x.1) && (backToKw cpos (keywordEach [] X.env)).all (fun x=>x.1.isSome)
   &&decide ((e::es).length+ ([]:List Keyword).length+ (if ([]:List Keyword).isEmpty then 0 else 1) < 30))=true:=by rfl)
  (hline:(apos.endLine == cpos.line)=true:=by rfl) (hs:starEach (e::es) X.env=(false,eval e X.env)::starEach es X.env:=by rfl) (hplain:(backTo cpos (starEach es X.env)).any (·.1)=false:=by rfl):
  PE X (.Call (.Attribute o name apos) (e::es) [] cpos) (tBM X.K T r to t):=by
 intro pins s σ H Q I h
 refine wpAny_Call_method_late hbase hfew hline rfl (thn (ho pins s σ H _ I h) fun v s1 ⟨x,H1,I1,r1,ty,q1⟩=>?_)
 obtain⟨h1,h2⟩:=zVu I1 r1 ty
 refine⟨T,id,pa,slot,hty,h1,h2,?_⟩
 have hA:=ha cpos pins s1 σ H1 _ I1 q1
 rw[hs]at hA ⊢
 refine Calls.callWith_builtin (by show(false || (backTo cpos (starEach es X.env)).any (·.1))=false;rw[hplain] <;> rfl) (Calls.evalArgs_plain ?_)
 exact thn hA fun us s2 ⟨vs,H2,I2,r2,q2⟩=>hm pins s2 σ H2 x vs v us Q I2 r1 r2 q2
end
end L2
namespace L2
open PySem PySem.Spec PyProof.Rows
noncomputable def MtM(X:Cx)(id:String)(r:V->List V->Hp->VK->Prop):Prop:=
 ∀(pins:List (Addr×Obj)) (s:Shared) (σ:St) (H:Hp) (x:V) (xs:List V) (v:Value) (us:List Value) (Q:VK),Inv X pins σ H s->RelV x v->Vals xs us->r x xs H Q->
  wpAny (model X.prog X.w) X.A (call (.builtin id) (v::us)) (EP X pins σ Q) X.xe s
theorem Vals.one:∀{x:V} {us:List Value},Vals [x] us->∃u,us= [u]/\RelV x u
 | _,_,.cons r .nil=>⟨_,rfl,r⟩
theorem Vals.reverse{xs:List V}{us:List Value}(h:Vals xs us):Vals xs.reverse us.reverse:=by
 induction h with
 | nil=>exact .nil
 | cons r t ih=>rw[List.reverse_cons,List.reverse_cons];exact Vals.append ih (.cons r .nil)
section
variable {X:Cx} {pins:List (Addr×Obj)} {σ:St} {H:Hp} {s:Shared} {l b:Addr} {xs ys zs:List V}
theorem Inv.lset{its its':List Value}{n:Nat}{f:Array Value->Array Value}{t':Nat}(I:Inv X pins σ H s)(hH:H l=some (.lst xs))
  (e:s.heap.get? l=some {cls:= .type "list",data:= .seq its.toArray n}) (hf:f its.toArray=its'.toArray) (hv:Vals ys its') (hz:ys.length<=sizeLine):
  Inv X pins σ (upd H l (.lst ys)) {s with heap:=s.heap.update l (Obj.mapSeq f),toks:=t'}:=by
 have q:=PySem.IsL.update e f
 rw[hf]at q
 refine I.write (x:=l) (e:=l) (by rw[hH];exact trivial) (.inl rfl) (fun b' u hb hu=>(Heap.get?_update_other s.heap (Obj.mapSeq f) (Ne.symm hb)).trans hu) ⟨_,q⟩ ?_
 exact⟨hz,its',_,hv,q⟩
theorem Inv.lnew{its:List Value}{t':Nat}(I:Inv X pins σ H s)(hv:Vals ys its)(hz:ys.length<=sizeLine):
  Inv X pins σ (upd H s.heap.objs.size (.lst ys)) {s with heap:=s.heap.push {cls:= .type "list",data:= .seq its.toArray},toks:=t'}:=
 I.laid (fun _ _ q=>Heap.get?_push_of_some _ q) (Nat.le_refl _) ⟨hz,its,0,hv,Heap.get?_push_size _ rfl⟩
theorem Inv.fresh(I:Inv X pins σ H s):H s.heap.objs.size=none:=I.hok.fresh (Nat.le_refl _)
theorem Inv.lstM(I:Inv X pins σ H s)(hH:H l=some (.lst xs)):xs.length<=sizeLine/\∃(its:List Value) (n:Nat),Vals xs its/\xs.length=its.length/\s.heap.get? l=some {cls:= .type "list",data:= .seq its.toArray n}:=by
 obtain⟨z,its,n,r,e⟩:=I.hok l _ hH
 exact⟨z,its,n,r,r.length,e⟩
theorem zRp{n:Nat}(h:n<=sizeLine):Builtin.List.listTooLong n=false:=by
 unfold Builtin.List.listTooLong
 exact decide_eq_false (by omega)
end
section
variable {X:Cx}
noncomputable def zT3:V->List V->Hp->VK->Prop:=fun x vs H Q=>∃l xs y,x= .ref l/\vs= [y]/\H l=some (.lst xs)/\xs.length < sizeLine/\Q .non (upd H l (.lst (xs++ [y])))
theorem zEf:MtM X "list.append" zT3:=by
 intro pins s σ H x vs v us Q I rx rv h
 obtain⟨l,xs,y,rfl,rfl,hH,hz,q⟩:=h
 cases rx
 obtain⟨u,rfl,ru⟩:=rv.one
 obtain⟨z,its,n,r,hl,e⟩:=I.lstM hH
 refine call_meets F.slot_list_append ⟨_,e,rfl⟩ F.entry_list_append (F.args_list_append_2 _ _) (PySem.list_append l its.toArray n u (by rw[List.size_toArray];omega)) ⟨e,?_⟩
 refine⟨.non,_,I.lset (its':=its++ [u]) hH e (by simp) (r.append (.cons ru .nil)) ?_,rfl,q⟩
 rw[List.length_append,List.length_singleton]
 omega
noncomputable def zT4:V->List V->Hp->VK->Prop:=fun x vs H Q=>∃l b xs zs,x= .ref l/\vs= [.ref b]/\H l=some (.lst xs)/\H b=some (.lst zs)/\xs.length+zs.length<=sizeLine/\Q .non (upd H l (.lst (xs++zs)))
theorem zDo:MtM X "list.extend" zT4:=by
 intro pins s σ H x vs v us Q I rx rv h
 obtain⟨l,b,xs,zs,rfl,rfl,hH,hB,hz,q⟩:=h
 cases rx
 obtain⟨u,rfl,ru⟩:=rv.one
 cases ru
 obtain⟨z,its,n,r,hl,e⟩:=I.lstM hH
 obtain⟨z2,its2,n2,r2,hl2,e2⟩:=I.lstM hB
 have hsz:its.toArray.size+its2.toArray.size<=sizeLine:=by rw[List.size_toArray,List.size_toArray];omega
 have hlong:¬(!its.toArray.isEmpty&&Builtin.List.listTooLong (its.toArray.size+its2.toArray.size))=true:=by
  rw[zRp hsz,Bool.and_false]
  exact Bool.false_ne_true
 refine call_meets F.slot_list_extend ⟨_,e,rfl⟩ F.entry_list_extend (F.args_list_extend_2 _ _)
  (AutoSeq1.list_extend_list_list_0 l its.toArray n b its2.toArray n2 hlong (by rw[List.size_toArray];omega) (by omega)) ⟨e,e2,?_⟩
 refine⟨.non,_,I.lset (its':=its++its2) hH e (by simp) (r.append r2) ?_,rfl,q⟩
 rw[List.length_append]
 omega
noncomputable def yCd:R2:=fun x y H Q=>∃l b xs zs,x= .ref l/\y= .ref b/\H l=some (.lst xs)/\H b=some (.lst zs)/\xs.length+zs.length<=sizeLine/\∀p,H p=none->Q (.ref p) (upd H p (.lst (xs++zs)))
theorem zK6:OpR X (binaryOp .Add) yCd:=by
 intro pins s σ H x y v u Q I rx ry h
 obtain⟨l,b,xs,zs,rfl,rfl,hH,hB,hz,q⟩:=h
 cases rx
 cases ry
 obtain⟨z,its,n,r,hl,e⟩:=I.lstM hH
 obtain⟨z2,its2,n2,r2,hl2,e2⟩:=I.lstM hB
 refine PySem.P.add_list e e2 ?_ (by rw[List.size_toArray,List.size_toArray];omega)
 have ea:its.toArray++its2.toArray=(its++its2).toArray:=by simp
 rw[ea]
 exact⟨.ref _,_,I.lnew (t':=s.toks) (r.append r2) (by rw[List.length_append];omega),rfl,q _ I.fresh⟩
end
section
variable {prog:Program} {w:World} {A:Around} {E:Value->Shared->Prop} {s:Shared}
set_option maxRecDepth 100000 in
end
section
variable {X:Cx}
end
end L2
namespace L2
open PySem PySem.Spec PyProof.Rows
theorem Vals.ints:∀{ns:List Int} {us:List Value},Vals (ns.map V.int) us->IntsAre us ns
 | [],us,h=>by
  rw[List.map_nil]at h
  cases h
  exact IntsAre.nil
 | n::ns,us,h=>by
  rw[List.map_cons]at h
  cases h with
  | cons r t=>
   obtain⟨k,rfl⟩:=r
   exact IntsAre.cons n k (Vals.ints t)
theorem zGr:∀{us:List Value} {ns:List Int},IntsAre us ns->Vals (ns.map V.int) us
 | _,_,.nil=>by rw[List.map_nil];exact Paired.nil
 | _,_,.cons n t h=>by rw[List.map_cons];exact Paired.cons (show RelV (V.int n) (Value.int n t)from⟨t,rfl⟩) (zGr h)
theorem Vals.bls:∀{bs:List Bool} {us:List Value},Vals (bs.map V.bl) us->us=bs.map Value.bool
 | [],us,h=>by
  rw[List.map_nil]at h
  cases h
  rfl
 | b::bs,us,h=>by
  rw[List.map_cons]at h
  cases h with
  | cons r t=>
   cases r
   rw[Vals.bls t,List.map_cons]
theorem Vals.ref1{a:Addr}{us:List Value}(r:Vals [V.ref a] us):us= [Value.ref a]:=by
 cases r with
 | cons r t=>
  cases t
  cases r
  rfl
section
variable {prog:Program} {w:World} {A:Around} {E:Value->Shared->Prop} {s:Shared} {l:Addr} {its:List Value} {ns:List Int} {Q:Value->Shared->Prop}
theorem zT5(hh:A.handled=none)(hl:s.heap.IsList l its.toArray)(hi:IntsAre its ns)
  (h:∀h' tk t',(∀b o,s.heap.get? b=some o->h'.get? b=some o)->Q (.int ns.sum t') {s with heap:=h',toks:=tk}):wpAny (model prog w) A (call (.builtin "sum") [.ref l]) Q E s:=by
 obtain⟨xs,e⟩:=hi.allInts.items
 have hn:numsOf (intItems xs).toList=ns:=by rw[<-e];exact hi.numsOf
 rw[nums_intItems]at hn
 rw[e]at hl
 refine PySem.sum_intListG hh hl fun h' tk t' hk=>?_
 have:=h h' tk t' hk
 rw[preSum_eq,List.take_of_length_le (by simp),hn];exact this
theorem zT6(hh:A.handled=none)(hl:s.heap.IsList l its.toArray)(hi:IntsAre its ns)(hne:0 < ns.length)
  (h:∀h' tk M t',(∀b o,s.heap.get? b=some o->h'.get? b=some o)->M∈ns->(∀a,a∈ns->a<=M)->Q (.int M t') {s with heap:=h',toks:=tk}):wpAny (model prog w) A (call (.builtin "max") [.ref l]) Q E s:=by
 obtain⟨xs,e⟩:=hi.allInts.items
 have hn:numsOf (intItems xs).toList=ns:=by rw[<-e];exact hi.numsOf
 rw[nums_intItems]at hn
 subst hn
 rw[e]at hl
 have hsz:0 < xs.size:=by simpa using hne
 refine PySem.max_intList hh hl hsz fun v h' tk hv hk=>?_
 obtain⟨t,rfl⟩:=intItems_at hv
 obtain⟨h1,h2⟩:=argBest_gt (numAt xs) (xs.size - 1)
 refine h h' tk _ t hk ?_ fun a ha=>?_
 ·rw[numAt_eq];exact PySem.getD_mem (by rw[List.length_map,Array.length_toList];omega)
 ·obtain⟨j,hj,rfl⟩:=mem_getD ha
  rw[List.length_map,Array.length_toList]at hj
  rw[<-numAt_eq];exact h2 j (by omega)
theorem zT7(hh:A.handled=none)(hl:s.heap.IsList l its.toArray)(hi:IntsAre its ns)(hne:0 < ns.length)
  (h:∀h' tk M t',(∀b o,s.heap.get? b=some o->h'.get? b=some o)->M∈ns->(∀a,a∈ns->M<=a)->Q (.int M t') {s with heap:=h',toks:=tk}):wpAny (model prog w) A (call (.builtin "min") [.ref l]) Q E s:=by
 obtain⟨xs,e⟩:=hi.allInts.items
 have hn:numsOf (intItems xs).toList=ns:=by rw[<-e];exact hi.numsOf
 rw[nums_intItems]at hn
 subst hn
 rw[e]at hl
 have hsz:0 < xs.size:=by simpa using hne
 refine PySem.min_intList hh hl hsz fun v h' tk hv hk=>?_
 obtain⟨t,rfl⟩:=intItems_at hv
 obtain⟨h1,h2⟩:=argBest_lt (numAt xs) (xs.size - 1)
 refine h h' tk _ t hk ?_ fun a ha=>?_
 ·rw[numAt_eq];exact PySem.getD_mem (by rw[List.length_map,Array.length_toList];omega)
 ·obtain⟨j,hj,rfl⟩:=mem_getD ha
  rw[List.length_map,Array.length_toList]at hj
  rw[<-numAt_eq];exact h2 j (by omega)
end
section
variable {X:Cx}
noncomputable def yCe(K:PySem.W.Frag):List V->Hp->VK->Prop:=fun vs H Q=>∃(a:Addr) (ns:List Int),vs= [V.ref a]/\SqL K H a (ns.map V.int)/\Q (.int ns.sum) H
noncomputable def yCf(K:PySem.W.Frag):List V->Hp->VK->Prop:=fun vs H Q=>∃(a:Addr) (ns:List Int),vs= [V.ref a]/\SqL K H a (ns.map V.int)/\0 < ns.length/\∀m,m∈ns->(∀y,y∈ns->y<=m)->Q (.int m) H
noncomputable def yCg(K:PySem.W.Frag):List V->Hp->VK->Prop:=fun vs H Q=>∃(a:Addr) (ns:List Int),vs= [V.ref a]/\SqL K H a (ns.map V.int)/\0 < ns.length/\∀m,m∈ns->(∀y,y∈ns->m<=y)->Q (.int m) H
theorem zVv(hc:X.calm=true):zFs X (.builtin "sum") (yCe X.K):=by
 intro pins s σ H vs us Q I r h
 obtain⟨a,ns,rfl,hs,q⟩:=h
 obtain⟨its,rv,hl,_⟩:=I.list hs
 rw[Vals.ref1 r]
 exact zT5 (I.ok.hd hc) hl.isList rv.ints fun h' tk t' hk=>⟨.int _,H,I.kept hk,⟨_,rfl⟩,q⟩
theorem zS3(hc:X.calm=true):zFs X (.builtin "max") (yCf X.K):=by
 intro pins s σ H vs us Q I r h
 obtain⟨a,ns,rfl,hs,hne,q⟩:=h
 obtain⟨its,rv,hl,_⟩:=I.list hs
 rw[Vals.ref1 r]
 exact zT6 (I.ok.hd hc) hl.isList rv.ints hne fun h' tk m t' hk h1 h2=>⟨.int _,H,I.kept hk,⟨_,rfl⟩,q m h1 h2⟩
theorem zPq(hc:X.calm=true):zFs X (.builtin "min") (yCg X.K):=by
 intro pins s σ H vs us Q I r h
 obtain⟨a,ns,rfl,hs,hne,q⟩:=h
 obtain⟨its,rv,hl,_⟩:=I.list hs
 rw[Vals.ref1 r]
 exact zT7 (I.ok.hd hc) hl.isList rv.ints hne fun h' tk m t' hk h1 h2=>⟨.int _,H,I.kept hk,⟨_,rfl⟩,q m h1 h2⟩
noncomputable def zT8(K:PySem.W.Frag):List V->Hp->VK->Prop:=fun vs H Q=>∃(a:Addr) (ns:List Int),vs= [V.ref a]/\SqL K H a (ns.map V.int)/\ns.length < 64/\
 ∀(ns':List Int) (p:Addr),ns'.Perm ns->ns'.Pairwise (·<=·)->H p=none->Q (.ref p) (upd H p (.lst (ns'.map V.int)))
theorem zT9{n:Nat}(h:n < 64):n<=sizeLine:=by rw[sizeLine_eq];omega
theorem zFu:zFs X (.builtin "sorted") (zT8 X.K):=by
 intro pins s σ H vs us Q I r h
 obtain⟨a,ns,rfl,hs,h64,q⟩:=h
 obtain⟨its,rv,hl,_⟩:=I.list hs
 rw[Vals.ref1 r]
 have hi:=rv.ints
 refine PyProof.Rows.sorted_ints hl.isList hi (by rw[hi.length];exact h64) fun out ns' h1 h2 h3=>?_
 obtain⟨ep,he'⟩:=PyProof.Rows.sortedAll_at s.heap its out
 have hlen:(ns'.map V.int).length<=sizeLine:=by rw[List.length_map,h2.length_eq];exact zT9 h64
 exact⟨.ref _,upd H (s.heap.objs.size+1) (.lst (ns'.map V.int)),I.laid (t':=s.toks) (fun _ _=>PyProof.Rows.sortedAll_old) (Nat.le_succ _) ⟨hlen,out.toList,ep,zGr h1,he'⟩,rfl,q ns' _ h2 h3 (I.hok.fresh (Nat.le_succ _))⟩
end
section
variable {X:Cx}
noncomputable def zVw(K:PySem.W.Frag):V->List V->Hp->VK->Prop:=fun x xs H Q=>∃(a:Addr) (ys:List V) (y:V) (j:Nat) (z:V),x=V.ref a/\xs= [y]/\SqL K H a ys/\zFb y=true/\ys.all zFb=true/\ys[j]? =some z/\eqV z y=true/\
 (∀(m:Nat) (z':V),m < j->ys[m]? =some z'->eqV z' y=false)/\Q (.int (j:Nat)) H
theorem zPr{ys:List V}(f:ys.all zFb=true){j:Nat}{z:V}(h:ys[j]? =some z):zFb z=true:=List.all_eq_true.mp f z (List.mem_of_getElem? h)
theorem zRq:MtR X "list.index" (zVw X.K):=by
 intro pins s σ H x xs v us Q I rx rxs h
 obtain⟨a,ys,y,j,z,rfl,rfl,hs,fy,fys,hz,hzj,hno,q⟩:=h
 cases rx
 cases rxs with
 | cons ry rt=>
  rename_i uy ut
  cases rt
  obtain⟨its,rv,⟨⟨cls,dd,data,sl⟩,n,ho,hc,hdn,hd⟩,hlen⟩:=I.list hs
  simp only at hc hd
  subst hc hd
  obtain⟨u,hu,ru⟩:=rv.get hz
  obtain⟨hjl,hje⟩:=List.getElem?_eq_some_iff.mp hu
  have hvl:=rv.length
  have hj:j < its.toArray.size:=by simpa using hjl
  have hsl:=sizeLine_eq
  refine call_meets PySem.F.slot_list_index ⟨_,ho,rfl⟩ PySem.F.entry_list_index (PySem.F.args_list_index_2 _ _)
   (SeqAt.list_indexAt a its.toArray n dd sl uy (eqU y) j hj (by omega) ?_ ?_) ⟨ho,fun u' hu'=>zEq ry fy rv fys u' (by simpa using hu'),?_⟩
  ·have e1:its.toArray[j] =u:=by simpa using hje
   rw[e1,zM8 ru (zPr fys hz)]
   exact hzj
  ·intro m hm hmj
   have hml:m < its.length:=by simpa using hm
   have hmy:m < ys.length:=by omega
   have hy':ys[m]? =some ys[m]:=List.getElem?_eq_getElem hmy
   obtain⟨u2,hu2,ru2⟩:=rv.get hy'
   obtain⟨_,hme⟩:=List.getElem?_eq_some_iff.mp hu2
   have e1:its.toArray[m] =u2:=by simpa using hme
   rw[e1,zM8 ru2 (zPr fys hy')]
   exact hno m _ hmj hy'
  ·exact⟨.int (j:Nat),H,I.tok _,⟨_,rfl⟩,q⟩
end
section
variable {X:Cx}
end
theorem zM9{prog:Program}{w:World}{A:Around}{E:Value->Shared->Prop}{s:Shared}{l:Addr}{items:Array Value}{Q:Value->Shared->Prop}(hl:s.heap.IsList l items)
  (h:∀s₂:Shared,s₂= {s with heap:=s.heap.push {cls:= .type "list_iterator",data:= .fields #[.ref l,.int 0 0]}}->
   (s₂.heap.IsListIter s.heap.objs.size l 0/\s₂.heap.IsList l items)->l≠s.heap.objs.size->Q (.ref s.heap.objs.size) s₂):wpAny (model prog w) A (pyIter (.ref l)) Q E s:=by
 have hlt:l < s.heap.objs.size:=by obtain⟨_,e,_⟩:=hl;exact Heap.lt_size e
 exact wpAny_pyIter_list hl (h _ rfl ⟨⟨_,Heap.get?_push_size _ rfl,rfl,rfl⟩,hl.push _⟩ (Nat.ne_of_lt hlt))
theorem zHt{prog:Program}{w:World}{A:Around}{bs:List Bool}{its:List Value}(e:its=bs.map Value.bool):
  TruthOf prog w A (fun i v=>its.toArray[i]? =some v) (fun i=>bs.getD i false):=fun i v s Q E hv hq=>by
 have hv':its[i]? =some v:=by simpa using hv
 rw[e,List.getElem?_map]at hv'
 obtain⟨b,hb,rfl⟩:=Option.map_eq_some_iff.mp hv'
 have hg:bs.getD i false=b:=by rw[List.getD_eq_getElem?_getD,hb] <;> rfl
 have hq':Q (bs.getD i false) s:=hq
 rw[hg]at hq'
 exact wpAny_truthy_bool hq'
theorem zK7:∀bs:List Bool,(List.range bs.length).any (fun i=>bs.getD i false)=bs.any id
 | []=>rfl
 | b::bs=>by
  rw[List.length_cons,List.range_succ_eq_map,List.any_cons,List.any_map,List.any_cons,<-zK7 bs]
  all_goals rfl
theorem zK8:∀bs:List Bool,(List.range bs.length).all (fun i=>bs.getD i false)=bs.all id
 | []=>rfl
 | b::bs=>by
  rw[List.length_cons,List.range_succ_eq_map,List.all_cons,List.all_map,List.all_cons,<-zK8 bs]
  all_goals rfl
section
variable {X:Cx}
noncomputable def yCh(K:PySem.W.Frag):List V->Hp->VK->Prop:=fun vs H Q=>∃(a:Addr) (bs:List Bool),vs= [V.ref a]/\SqL K H a (bs.map V.bl)/\Q (.bl (bs.any id)) H
noncomputable def yCi(K:PySem.W.Frag):List V->Hp->VK->Prop:=fun vs H Q=>∃(a:Addr) (bs:List Bool),vs= [V.ref a]/\SqL K H a (bs.map V.bl)/\Q (.bl (bs.all id)) H
theorem zVx(hc:X.calm=true):zFs X (.builtin "any") (yCh X.K):=by
 intro pins s σ H vs us Q I r h
 obtain⟨a,bs,rfl,hs,q⟩:=h
 obtain⟨its,rv,hl,_⟩:=I.list hs
 rw[Vals.ref1 r]
 have hb:=rv.bls
 refine call_any_walk (zM9 hl.isList fun s₂ e2 st hne=>?_)
 subst e2
 refine⟨_,_,_,_,_,_,_,rfl,Walks.list (A:=X.A.in1) (I.ok.hd hc) _ a hne its.toArray,st,zHt hb,fun h' tk hk=>?_⟩
 refine⟨.bl _,H,I.kept fun b o eo=>hk b o (fun hmem=>?_) (Heap.get?_push_of_some _ eo),?_,q⟩
 ·rcases List.mem_cons.mp hmem with e1 | hmem
  ·exact absurd (e1▸Heap.lt_size eo) (Nat.lt_irrefl _)
  ·cases hmem
 ·show Value.bool _=Value.bool _
  rw[<-zK7,hb,List.size_toArray,List.length_map]
theorem zS4(hc:X.calm=true):zFs X (.builtin "all") (yCi X.K):=by
 intro pins s σ H vs us Q I r h
 obtain⟨a,bs,rfl,hs,q⟩:=h
 obtain⟨its,rv,hl,_⟩:=I.list hs
 rw[Vals.ref1 r]
 have hb:=rv.bls
 refine call_all_walk (zM9 hl.isList fun s₂ e2 st hne=>?_)
 subst e2
 refine⟨_,_,_,_,_,_,_,rfl,Walks.list (A:=X.A.in1) (I.ok.hd hc) _ a hne its.toArray,st,zHt hb,fun h' tk hk=>?_⟩
 refine⟨.bl _,H,I.kept fun b o eo=>hk b o (fun hmem=>?_) (Heap.get?_push_of_some _ eo),?_,q⟩
 ·rcases List.mem_cons.mp hmem with e1 | hmem
  ·exact absurd (e1▸Heap.lt_size eo) (Nat.lt_irrefl _)
  ·cases hmem
 ·show Value.bool _=Value.bool _
  rw[<-zK8,hb,List.size_toArray,List.length_map]
end
mutual
inductive Dp(K:PySem.W.Frag)(H:Hp):V->PyData->Prop
 | non:Dp K H .non .none
 | bl (b:Bool):Dp K H (.bl b) (.bool b)
 | int (i:Int):Dp K H (.int i) (.int i)
 | str (x:Str):Dp K H (.str x) (.str x)
 | lst {a:Addr} {xs:List V} {ds:List PyData}:SqL K H a xs->zMm K H xs ds->Dp K H (.ref a) (.list ds)
 | tup {a:Addr} {xs:List V} {ds:List PyData}:SqT K H a xs->zMm K H xs ds->Dp K H (.ref a) (.tuple ds)
inductive zMm(K:PySem.W.Frag)(H:Hp):List V->List PyData->Prop
 | nil:zMm K H [] []
 | cons {v:V} {vs:List V} {d:PyData} {ds:List PyData}:Dp K H v d->zMm K H vs ds->zMm K H (v::vs) (d::ds)
end
section
variable {X:Cx} {pins:List (Addr×Obj)} {σ:St} {H:Hp} {s:Shared}
mutual
theorem Dp.reads(I:Inv X pins σ H s):∀(d:PyData) (v:V) (u:Value),Dp X.K H v d->RelV v u->∃as,Reads s.heap u d as
 | .none,_,_,h,r=>by
  cases h
  cases r
  exact⟨_,Reads.none⟩
 | .bool b,_,_,h,r=>by
  cases h
  cases r
  exact⟨_,Reads.bool b⟩
 | .int i,_,_,h,r=>by
  cases h
  obtain⟨t,rfl⟩:=r
  exact⟨_,Reads.int i t⟩
 | .str x,_,_,h,r=>by
  cases h
  obtain⟨t,rfl⟩:=r
  exact⟨_,Reads.str x t⟩
 | .list ds,_,_,h,r=>by
  cases h with
  | lst hs ha=>
   cases r
   obtain⟨its,rv,⟨o,n,ho,hc,_,hd⟩,_⟩:=I.list hs
   obtain⟨as,hr⟩:=Dp.readsAll I ds _ its ha rv
   exact⟨_,Reads.list ho hc hd hr⟩
 | .tuple ds,_,_,h,r=>by
  cases h with
  | tup hs ha=>
   cases r
   obtain⟨its,rv,⟨o,ho,hc,n,hd⟩,_⟩:=I.tuple hs
   obtain⟨as,hr⟩:=Dp.readsAll I ds _ its ha rv
   exact⟨_,Reads.tuple ho hc hd hr⟩
 | .dict _,_,_,h,_=>by cases h
theorem Dp.readsAll(I:Inv X pins σ H s):∀(ds:List PyData) (vs:List V) (us:List Value),zMm X.K H vs ds->Vals vs us->∃as,ReadsAll s.heap us ds as
 | [],_,_,h,r=>by
  cases h
  cases r
  exact⟨_,ReadsAll.nil⟩
 | d::ds,_,_,h,r=>by
  cases h with
  | cons h1 h2=>
   cases r with
   | cons r1 r2=>
    obtain⟨as,q1⟩:=Dp.reads I d _ _ h1 r1
    obtain⟨bs,q2⟩:=Dp.readsAll I ds _ _ h2 r2
    exact⟨_,ReadsAll.cons q1 q2⟩
end
end
section
variable {X:Cx}
noncomputable def yCj(K:PySem.W.Frag):R2:=fun x y H Q=>∃d e,Dp K H x d/\Dp K H y e/\SeqAt.shaped d=true/\SeqAt.shaped e=true/\Q (.bl (PyData.eqv d e)) H
theorem zNa(hu:X.A.units+64 < cLine):OpR X (compareOp .Eq) (yCj X.K):=by
 intro pins s σ H x y v u Q I rx ry h
 obtain⟨d,e,hd,he,sd,se,q⟩:=h
 obtain⟨as,r1⟩:=Dp.reads I d x v hd rx
 obtain⟨bs,r2⟩:=Dp.reads I e y u he ry
 exact SeqAt.compareEq_shaped r1 r2 sd se hu ⟨.bl _,H,I,rfl,q⟩
end
end L2
namespace L2
open PySem PySem.Spec PyProof.Rows
noncomputable abbrev zS5(h:Heap)(c:Addr)(v:Option Value):Prop:=h.IsCell c v
noncomputable def yCk(scope sc:Scope):Scope:=
 {scope with names:=scope.names.map fun(n,k)=>if (k == .free&&sc.kind == .function&&sc.names.lookup n == some .cell)then(n,.cell)else(n,k)}
noncomputable def zBe(cells:List (Str×Addr)):List (Str×NameKind)->List (Str×Addr)->List (Str×Addr)
 | [],acc=>acc
 | (n,k)::r,acc=>if k == .free then zBe cells r ((n,(cells.lookup n).getD 0)::acc)else zBe cells r acc
theorem zGs(env:Env)(f:Str×NameKind->List (Str×Addr)->Sem (ForInStep (List (Str×Addr))))
  (hf:∀n k c,f (n,k) c=if k == .free then(do let a <-cellOf env n;pure (.yield ((n,a)::c)))else pure (.yield c)):
  ∀(names:List (Str×NameKind)) (acc:List (Str×Addr)),(∀y∈names,y.2= .free->∃c,env.cells.lookup y.1=some c)->forIn names acc f=pure (zBe env.cells names acc)
 | [],acc,_=>by rw[List.forIn_nil];rfl
 | (n,k)::r,acc,h=>by
  rw[List.forIn_cons,hf]
  have ih:=fun acc=>zGs env f hf r acc fun y hy=>h y (List.mem_cons_of_mem _ hy)
  unfold zBe
  by_cases hk:(k == NameKind.free)=true
  ·rw[if_pos hk,if_pos hk]
   obtain⟨c,hc⟩:=h (n,k) List.mem_cons_self (by simpa using hk)
   have e:cellOf env n=pure c:=by unfold cellOf;rw[hc]
   rw[e]
   have e2:(env.cells.lookup n).getD 0=c:=by rw[hc];rfl
   rw[e2]
   exact ih _
  ·rw[if_neg hk,if_neg hk]
   exact ih _
theorem zI2{scope:Scope}{env:Env}(h:∀y∈scope.names,y.2= .free->∃c,env.cells.lookup y.1=some c):closureFor scope env=pure (zBe env.cells scope.names []):=by
 simp only [closureFor]
 rw[zGs env _ (fun n k c=>rfl) scope.names [] h]
 rfl
theorem zGd{α:Type}:∀{l:List (Str×α)} {n:Str} {c:α},(n,c)∈l->∃c',l.lookup n=some c'
 | (k,v)::r,n,c,h=>by
  rw[List.lookup_cons]
  cases hb:n == k with
  | true=>exact⟨_,rfl⟩
  | false=>
   rcases List.mem_cons.mp h with e | h
   ·cases e;simp at hb
   ·exact zGd h
theorem zDy{cells:List (Str×Addr)}:∀{names:List (Str×NameKind)} {acc:List (Str×Addr)} {n:Str} {c:Addr},(n,c)∈zBe cells names acc->(n,c)∈acc\/((n,.free)∈names/\c=(cells.lookup n).getD 0)
 | [],_,_,_,h=> .inl h
 | (m,k)::r,acc,n,c,h=>by
  unfold zBe at h
  split at h
  ·rename_i hk
   have hk:k= .free:=by simpa using hk
   rcases zDy h with h | ⟨h1,h2⟩
   ·rcases List.mem_cons.mp h with e | h
    ·cases e;exact .inr ⟨hk▸List.mem_cons_self,rfl⟩
    ·exact .inl h
   ·exact .inr ⟨List.mem_cons_of_mem _ h1,h2⟩
  ·rcases zDy h with h | ⟨h1,h2⟩
   ·exact .inl h
   ·exact .inr ⟨List.mem_cons_of_mem _ h1,h2⟩
theorem zFd{cells:List (Str×Addr)}:∀{names:List (Str×NameKind)} {acc:List (Str×Addr)} {p:Str×Addr},p∈acc->p∈zBe cells names acc
 | [],_,_,h=>h
 | (m,k)::r,acc,p,h=>by
  unfold zBe
  split
  ·exact zFd (List.mem_cons_of_mem _ h)
  ·exact zFd h
theorem zFe{cells:List (Str×Addr)}:∀{names:List (Str×NameKind)} {acc:List (Str×Addr)} {n:Str},(n,.free)∈names->(n,(cells.lookup n).getD 0)∈zBe cells names acc
 | (m,k)::r,acc,n,h=>by
  unfold zBe
  rcases List.mem_cons.mp h with e | h
  ·cases e
   exact zFd List.mem_cons_self
  ·split
   ·exact zFe h
   ·exact zFe h
theorem zEg:∀{names:List (Str×NameKind)} {h:Heap} {acc:List (Str×Addr)} {x:Str} {c:Addr},(x,c)∈cellsFrom h.objs.size names acc->
  (x,c)∈acc\/((x,.cell)∈names/\h.objs.size<=c/\zS5 (pushCells h names) c none)
 | [],_,_,_,_,h=> .inl h
 | (n,k)::r,h,acc,x,c,hm=>by
  unfold cellsFrom at hm
  unfold pushCells
  split at hm
  ·rename_i hk
   rw[if_pos hk]
   have hk:k= .cell:=by simpa using hk
   rw[<-Heap.size_push h {cls:= .type "cell",data:= .cell none}]at hm
   rcases zEg hm with hm | ⟨h1,h2,h3⟩
   ·rcases List.mem_cons.mp hm with e | hm
    ·cases e
     exact .inr ⟨hk▸List.mem_cons_self,Nat.le_refl _,_,pushCells_keeps r _ _ _ (Heap.get?_push_size _ rfl),rfl⟩
    ·exact .inl hm
   ·rw[Heap.size_push]at h2
    exact .inr ⟨List.mem_cons_of_mem _ h1,Nat.le_of_succ_le h2,h3⟩
  ·rename_i hk
   rw[if_neg hk]
   rcases zEg hm with hm | ⟨h1,h2,h3⟩
   ·exact .inl hm
   ·exact .inr ⟨List.mem_cons_of_mem _ h1,h2,h3⟩
theorem zFv:∀{names:List (Str×NameKind)} {n:Nat} {acc:List (Str×Addr)} {p:Str×Addr},p∈acc->p∈cellsFrom n names acc
 | [],_,_,_,h=>h
 | (m,k)::r,n,acc,p,h=>by
  unfold cellsFrom
  split
  ·exact zFv (List.mem_cons_of_mem _ h)
  ·exact zFv h
theorem zHu:∀{names:List (Str×NameKind)} {n:Nat} {acc:List (Str×Addr)} {x:Str},(x,.cell)∈names->∃c,(x,c)∈cellsFrom n names acc
 | (m,k)::r,n,acc,x,h=>by
  unfold cellsFrom
  rcases List.mem_cons.mp h with e | h
  ·cases e
   exact⟨n,zFv List.mem_cons_self⟩
  ·split
   ·exact zHu h
   ·exact zHu h
theorem zHv:∀{names:List (Str×NameKind)} {h:Heap} {acc:List (Str×Addr)} {x y:Str} {c:Addr},(∀p∈acc,p.2 < h.objs.size)->(∀x y c,(x,c)∈acc->(y,c)∈acc->x=y)->
  (x,c)∈cellsFrom h.objs.size names acc->(y,c)∈cellsFrom h.objs.size names acc->x=y
 | [],_,_,_,_,_,_,hi,h1,h2=>hi _ _ _ h1 h2
 | (n,k)::r,h,acc,x,y,c,hl,hi,h1,h2=>by
  unfold cellsFrom at h1 h2
  split at h1
  ·rename_i hk
   rw[if_pos hk]at h2
   rw[<-Heap.size_push h {cls:= .type "cell",data:= .cell none}]at h1 h2
   refine zHv (h:=h.push _) (fun p hp=>?_) (fun x y c a b=>?_) h1 h2
   ·rw[Heap.size_push]
    rcases List.mem_cons.mp hp with rfl | hp
    ·exact Nat.lt_succ_self _
    ·exact Nat.lt_succ_of_lt (hl p hp)
   ·rcases List.mem_cons.mp a with e | a <;> rcases List.mem_cons.mp b with e' | b
    ·cases e;cases e';rfl
    ·cases e;exact absurd (hl _ b) (Nat.lt_irrefl _)
    ·cases e';exact absurd (hl _ a) (Nat.lt_irrefl _)
    ·exact hi _ _ _ a b
  ·rename_i hk
   rw[if_neg hk]at h2
   exact zHv hl hi h1 h2
theorem zHw{M:Model}{A:Around}{E:Value->Shared->Prop}{s:Shared}{scope:Scope}{globals:Addr}{closure:List (Str×Addr)}{qual:Str}{func:Option Addr}{code:Value}{around:Env}{builtins:Addr}{Q:Env->Shared->Prop}
  (h:Q (newEnv scope s.heap.objs.size globals (cellsFrom (s.heap.objs.size+1) scope.names closure) qual func code (some around) builtins)
   {s with heap:=pushCells (s.heap.push {cls:= .type "dict",data:= .dict #[]}) scope.names}):
  wpAny M A (newFunctionEnv scope globals closure [] qual func code (some around) builtins) Q E s:=by
 simp only [newFunctionEnv,Option.isSome_some,if_true]
 refine wpAny_bind (wpAny_alloc ?_)
 refine wpAny_bind (wpAny_layCells _ (fun n k c=>rfl) scope.names closure _ _ ?_)
 rw[show({s with heap:=s.heap.push {cls:= .type "dict",data:= .dict #[]}}:Shared).heap.objs.size=s.heap.objs.size+1 from Heap.size_push ..]
 rw[List.forIn_nil]
 exact wpAny_bind (wpAny_pure (wpAny_pure h))
theorem zFf{sc:Scope}:∀{names:List (Str×NameKind)} {x:Str} {k:NameKind},
  (names.map fun(n,k)=>if (k == NameKind.free&&sc.kind == .function&&sc.names.lookup n == some .cell)then(n,NameKind.cell)else(n,k)).lookup x=some k->
  ∃k',names.lookup x=some k'/\(k=k'\/(k'= .free/\k= .cell))
 | [],_,_,h=>by simp at h
 | (n,k₀)::r,x,k,h=>by
  have ih:=@zFf sc r x k
  have h':List.lookup x ((if (k₀ == NameKind.free&&sc.kind == .function&&sc.names.lookup n == some .cell)=true then(n,NameKind.cell)else(n,k₀))::(r.map _))=some k:=h
  cases hx:x == n with
  | true=>
   simp only [List.lookup_cons,hx]
   by_cases hc:(k₀ == NameKind.free&&sc.kind == .function&&sc.names.lookup n == some .cell)=true
   ·rw[if_pos hc]at h'
    simp only [List.lookup_cons,hx]at h'
    cases h'
    simp only [Bool.and_eq_true,beq_iff_eq]at hc
    exact⟨k₀,rfl,.inr ⟨hc.1.1,rfl⟩⟩
   ·rw[if_neg hc]at h'
    simp only [List.lookup_cons,hx]at h'
    cases h'
    exact⟨_,rfl,.inl rfl⟩
  | false=>
   simp only [List.lookup_cons,hx]
   by_cases hc:(k₀ == NameKind.free&&sc.kind == .function&&sc.names.lookup n == some .cell)=true
   ·rw[if_pos hc]at h'
    simp only [List.lookup_cons,hx]at h'
    exact ih h'
   ·rw[if_neg hc]at h'
    simp only [List.lookup_cons,hx]at h'
    exact ih h'
structure zCf(N:List Str)(sc scope:Scope)(own:List (Str×Nat)):Prop where
 kind:scope.kind= .function
 uniq:∀y∈scope.names,scope.names.lookup y.1=some y.2
 ix:∀p∈own,N[p.2]? =some p.1
 free:∀y∈scope.names,y.2= .free->sc.names.lookup y.1=some .cell\/sc.names.lookup y.1=some .free
 own:∀y∈scope.names,y.2= .local\/y.2= .cell->y.1∈own.map (·.1)\/y.1∉N
noncomputable def zCi(σ:St):List Nat->St
 | []=>σ
 | v::vs=>(zCi σ vs).set v none
theorem zDz(σ:St):∀vs:List Nat,(zCi σ vs).length=σ.length
 | []=>rfl
 | v::vs=>by unfold zCi;rw[List.length_set,zDz σ vs]
theorem zFw{σ:St}{i:Nat}{x:V}:∀{vs:List Nat},(zCi σ vs)[i]? =some (some x)->σ[i]? =some (some x)/\i∉vs
 | [],h=>⟨h,by simp⟩
 | v::vs,h=>by
  unfold zCi at h
  by_cases hi:v=i
  ·subst hi
   by_cases hv:v < (zCi σ vs).length
   ·rw[List.getElem?_set_self hv]at h;cases h
   ·rw[List.getElem?_eq_none (by simpa using hv)]at h;cases h
  ·rw[List.getElem?_set_ne hi]at h
   obtain⟨h1,h2⟩:=zFw h
   exact⟨h1,by simp only [List.mem_cons,not_or];exact⟨fun e=>hi e.symm,h2⟩⟩
noncomputable abbrev Cx.blk(X:Cx)(s:Shared)(H:Hp)(scope:Scope)(cenv:Env)(fp:List Addr):Cx:={X with s_0:=s,H_0:=H,env:=cenv,outer:=X.stack,ex:=fp,fn:=fun x=>scope.names.lookup x == some .cell,pn:=[],xe:=fun _ _=>False}
section
variable {X:Cx} {pins:List (Addr×Obj)} {σ:St} {H:Hp} {s:Shared}
theorem zHx{scope:Scope}{own:List (Str×Nat)}{fp:List Addr}(I:Inv X pins σ H s)(ok:zCf X.N X.env.scope scope own)(hN:X.N.Nodup)(hfp:∀b∈fp,zL7 X pins H b/\b < s.heap.objs.size):
  Inv (X.blk s H scope (compEnvC scope (cellsFrom (s.heap.objs.size+1) scope.names (zBe X.env.cells scope.names [])) s.heap.objs.size X.env) fp) [] (zCi σ (own.map (·.2))) H {s with heap:=pushCells (s.heap.push {cls:= .type "dict",data:= .dict #[]}) scope.names}:=by
 have hfree:∀y∈scope.names,y.2= .free->∃c,X.env.cells.lookup y.1=some c:=fun y hy e=>by
  rcases ok.free y hy e with k | k
  ·exact I.ok.has _ (.inl k)
  ·exact I.ok.has _ (.inr k)
 generalize hcenv:compEnvC scope (cellsFrom (s.heap.objs.size+1) scope.names (zBe X.env.cells scope.names [])) s.heap.objs.size X.env=cenv
 have kp:∀b o,s.heap.get? b=some o->(pushCells (s.heap.push {cls:= .type "dict",data:= .dict #[]}) scope.names).get? b=some o:=fun b o e=>pushCells_keeps _ _ _ _ (Heap.get?_push_of_some _ e)
 have hL:cenv.locals=s.heap.objs.size:=by rw[<-hcenv];rfl
 have hcl:cenv.cells=cellsFrom (s.heap.objs.size+1) scope.names (zBe X.env.cells scope.names []):=by rw[<-hcenv];rfl
 have hsc:cenv.scope=yCk scope X.env.scope:=by rw[<-hcenv];rfl
 rw[<-Heap.size_push s.heap {cls:= .type "dict",data:= .dict #[]}]at hcl
 have cm:∀{y c},(y,c)∈zBe X.env.cells scope.names []->X.env.cells.lookup y=some c/\c < s.heap.objs.size:=fun {y c} hm=>by
  rcases zDy hm with hm | ⟨h1,rfl⟩
  ·cases hm
  ·obtain⟨c,hc⟩:=hfree _ h1 rfl
   rw[hc]
   obtain⟨w,z⟩:=I.cell _ _ hc
   exact⟨rfl,z.lt⟩
 have mem:∀{y c},cenv.cells.lookup y=some c->(X.env.cells.lookup y=some c/\c < s.heap.objs.size)\/(s.heap.objs.size+1<=c/\zS5 (pushCells (s.heap.push {cls:= .type "dict",data:= .dict #[]}) scope.names) c none):=fun {y c} e=>by
  rw[hcl]at e
  rcases zEg (PySem.mem_of_lookup e)with hm | ⟨_,h2,h3⟩
  ·exact .inl (cm hm)
  ·rw[Heap.size_push]at h2;exact .inr ⟨h2,h3⟩
 have look:∀{y},scope.names.lookup y=some .free->∃c,cenv.cells.lookup y=some c/\X.env.cells.lookup y=some c:=fun {y} hl=>by
  have hy:(y,NameKind.free)∈scope.names:=PySem.mem_of_lookup hl
  obtain⟨c',e'⟩:=zGd (zFv (names:=scope.names) (n:=(s.heap.push {cls:= .type "dict",data:= .dict #[]}).objs.size) (zFe (cells:=X.env.cells) (acc:=[]) hy))
  rw[<-hcl]at e'
  refine⟨c',e',?_⟩
  rw[hcl]at e'
  rcases zEg (PySem.mem_of_lookup e')with hm | ⟨h1,_,_⟩
  ·exact(cm hm).1
  ·have:=ok.uniq _ h1
   rw[hl]at this;cases this
 have okB:(X.blk s H scope cenv fp).Ok:=by
  refine⟨I.ok.mod,by show cenv.scope.kind= _;rw[hsc];exact ok.kind,by show cenv.globals= _;rw[<-hcenv];exact I.ok.glob,by show cenv.builtins= _;rw[<-hcenv];exact I.ok.blt,by show s.heap.objs.size<=cenv.locals;rw[hL];exact Nat.le_refl _,
   fun y z c e1 e2=>?_,fun y hy=>?_,fun y c z e=>?_,I.ok.hd,I.ok.frames,.inl rfl,fun b hb=>⟨?_,fun y c e z=>?_⟩,I.bs,Nat.le_trans I.ok.bsz I.sz,fun b o e hb=>?_,fun b hb z=>?_,I.stack,I.stkFree⟩
  ·have e1:cenv.cells.lookup y=some c:=e1
   have e2:cenv.cells.lookup z=some c:=e2
   rw[hcl]at e1 e2
   refine zHv (fun p hp=>?_) (fun y z c a b=>I.ok.inj y z c (cm a).1 (cm b).1) (PySem.mem_of_lookup e1) (PySem.mem_of_lookup e2)
   rw[Heap.size_push]
   exact Nat.lt_succ_of_lt (cm (y:=p.1) (c:=p.2) hp).2
  ·show∃c,cenv.cells.lookup y=some c
   have key:∀k,cenv.kindOf y=some k->(k= .cell\/k= .free)->∃c,cenv.cells.lookup y=some c:=fun k hk hk'=>by
    unfold Env.kindOf at hk
    rw[hsc]at hk
    obtain⟨k',e,r⟩:=zFf hk
    have:k'= .cell\/k'= .free:=by
     rcases r with rfl | ⟨rfl,_⟩
     ·exact hk'
     ·exact .inr rfl
    rcases this with rfl | rfl
    ·obtain⟨c,hm⟩:=zHu (n:=(s.heap.push {cls:= .type "dict",data:= .dict #[]}).objs.size) (acc:=zBe X.env.cells scope.names []) (PySem.mem_of_lookup e)
     obtain⟨c',e'⟩:=zGd hm
     exact⟨c',by rw[hcl];exact e'⟩
    ·obtain⟨c,h1,_⟩:=look e
     exact⟨c,h1⟩
   rcases hy with hy | hy
   ·exact key _ hy (.inl rfl)
   ·exact key _ hy (.inr rfl)
  ·have z:(scope.names.lookup y == some NameKind.cell)=true:=z
   have z:scope.names.lookup y=some .cell:=by simpa using z
   have e:cenv.cells.lookup y=some c:=e
   rw[hcl]at e
   rcases zEg (PySem.mem_of_lookup e)with hm | ⟨_,h2,_⟩
   ·rcases zDy hm with hm | ⟨h1,_⟩
    ·cases hm
    ·have q:=ok.uniq _ h1
     rw[z]at q;cases q
   ·rw[Heap.size_push]at h2
    exact Nat.le_of_succ_le h2
  ·show b≠cenv.locals
   rw[hL];exact Nat.ne_of_lt (hfp b hb).2
  ·have e:cenv.cells.lookup y=some c:=e
   rcases mem e with⟨h1,_⟩ | ⟨h1,_⟩
   ·exact(hfp b hb).1.2.2.2.2.1 y c h1 z
   ·have h2:s.heap.objs.size+1<=b:=by rw[<-z];exact h1
    exact absurd (Nat.lt_of_lt_of_le (hfp b hb).2 (Nat.le_of_succ_le h2)) (Nat.lt_irrefl _)
  ·rcases(hfp b hb).1.2.2.2.1 with z | z
   ·exact I.ok.noex b o e z
   ·exact absurd (Nat.lt_of_lt_of_le (Heap.lt_size e) (Nat.le_trans I.ok.bsz z)) (Nat.lt_irrefl _)
  ·rcases List.mem_cons.mp (I.stkSub b z)with z | z
   ·exact(hfp b hb).1.2.1 z
   ·exact(hfp b hb).1.2.2.1 z
 refine⟨okB,rfl,I.bare,Un.kept kp,⟨fun _=>none,?_,fun i y av e1 e2 e3=>?_⟩,fun y c e=>?_,?_,fun y c e=>?_,fun p hp=>?_,I.hok.kept kp,by rw[zDz];exact I.len⟩
 ·show Heap.Ns _ cenv.locals _
  rw[hL]
  exact Heap.Ns.keeps (Heap.Ns.new ..) fun b o e=>pushCells_keeps _ _ _ _ e
 ·obtain⟨e2,hne⟩:=zFw e2
  have hfr:scope.names.lookup y=some .free/\(cenv.kindOf y=some .cell\/cenv.kindOf y=some .free):=by
   have key:∀k,cenv.scope.names.lookup y=some k->k= .local\/k= .cell\/k= .free->scope.names.lookup y=some .free/\(cenv.kindOf y=some .cell\/cenv.kindOf y=some .free):=fun k hk hk'=>by
    have hk0:=hk
    rw[hsc]at hk
    obtain⟨k',e,r⟩:=zFf hk
    have no:¬(k'= .local\/k'= .cell):=fun hh=>by
     rcases ok.own _ (PySem.mem_of_lookup e) hh with e' | e'
     ·obtain⟨p,hp,hpy⟩:=List.mem_map.mp e'
      have e3:=ok.ix p hp
      have:p.1=y:=hpy
      rw[this]at e3
      exact hne (List.mem_map.mpr ⟨p,hp,zJl hN e3 e1⟩)
     ·exact e' (List.mem_of_getElem? e1)
    rcases r with rfl | ⟨rfl,rfl⟩
    ·rcases hk' with rfl | rfl | rfl
     ·exact absurd (.inl rfl) no
     ·exact absurd (.inr rfl) no
     ·exact⟨e,.inr hk0⟩
    ·exact⟨e,.inl hk0⟩
   have e3:Vis cenv.scope y:=e3
   rcases e3 with e3 | e3 | e3
   ·exact key _ e3 (.inl rfl)
   ·exact key _ e3 (.inr (.inl rfl))
   ·exact key _ e3 (.inr (.inr rfl))
  obtain⟨m,hn,hl⟩:=I.loc
  have hvis:Vis X.env.scope y:=(ok.free _ (PySem.mem_of_lookup hfr.1) rfl).elim (fun k=> .inr (.inl k)) (fun k=> .inr (.inr k))
  obtain⟨w,r,q⟩:=hl i y av e1 e2 hvis
  refine⟨w,r,.inr ⟨hfr.2,?_⟩⟩
  obtain⟨c,h1,h2⟩:=look hfr.1
  rcases q with⟨k,_⟩ | ⟨_,c',e',z⟩
  ·have k:X.env.scope.names.lookup y=some .local:=k
   rcases ok.free _ (PySem.mem_of_lookup hfr.1) rfl with k' | k' <;> rw[show X.env.scope.names.lookup y= _ from k']at k <;> cases k
  ·rw[h2]at e';cases e'
   exact⟨c,h1,z.keeps kp⟩
 ·have e:cenv.cells.lookup y=some c:=e
  rcases mem e with⟨h1,_⟩ | ⟨_,z⟩
  ·obtain⟨w,z⟩:=I.cell y c h1
   exact⟨w,z.keeps kp⟩
  ·exact⟨_,z⟩
 ·show H cenv.locals=none
  rw[hL];exact I.hok.fresh (Nat.le_refl _)
 ·have e:cenv.cells.lookup y=some c:=e
  rcases mem e with⟨h1,_⟩ | ⟨h1,_⟩
  ·exact I.freeC y c h1
  ·exact I.hok.fresh (Nat.le_of_succ_le h1)
 ·exact absurd (show p∈([]:List (Addr×Obj)) ++ []from hp) (by simp)
theorem zS6{E:Value->Shared->Prop}{D:Addr}{xs:List V}{y:V}{v:Value}{Q:Value->Shared->Prop}(I:Inv X pins σ H s)(hD:H D=some (.lst xs))(hz:xs.length < sizeLine)(r:RelV y v)
  (h:∀s',Inv X pins σ (upd H D (.lst (xs++ [y]))) s'->Q .none s'):wpAny (model X.prog X.w) X.A (call (.builtin "list.append") [.ref D,v]) Q E s:=by
 obtain⟨hz',its,n,ri,e⟩:=I.hok D _ hD
 have hl:=ri.length
 refine append_at (hsz:=by rw[List.size_toArray];omega) e fun h' sb ho'=>?_
 refine h {s with heap:=h'} (I.write (t':=s.toks) (by rw[hD];trivial) (.inl rfl) (fun b u hb q=>(sb.2 b hb).trans q) ⟨_,ho'⟩ ⟨by rw[List.length_append];exact hz,its++ [v],n+1,ri.append (.cons r .nil),?_⟩)
 rw[ho']
 simp
noncomputable def PTs(X:Cx)(ifs:List Expr)(t:TT):Prop:=
 ∀(pins:List (Addr×Obj)) (s:Shared) (σ:St) (H:Hp) (Q:Bool->Hp->Prop),Inv X pins σ H s->t σ H Q->
  wpAny (model X.prog X.w) X.A (forIn ifs true fun c r=>if r=true then do let ok <-isTrue c X.env (eval c X.env);pure (ForInStep.yield ok)else pure (ForInStep.yield r)) (TP X pins σ Q) X.xe s
noncomputable def zNb:TT:=fun _ H Q=>Q true H
theorem zB2:PTs X [] zNb:=fun _ _ _ H _ I h=>wpAny_tests_nil ⟨H,I,h⟩
theorem zGe{c:Expr}{t:TT}(h:PT X c t):PTs X [c] t:=fun pins s σ H Q I hw=>wpAny_tests_one (h pins s σ H Q I hw)
end
theorem zPs{α:Type}{t:Sem α}{Q Q':α->Shared->Prop}{M:Model}{A:Around}{E:Value->Shared->Prop}{s:Shared}(h:wpAny M A t Q (fun _ _=>False) s)(hQ:∀a s,Q a s->Q' a s):wpAny M A t Q' E s:=wpAny_mono h hQ fun _ _ z=>False.elim z
theorem zGt{prog:Program}{w:World}{A:Around}{R:Result->Shared->Prop}{s:Shared}{elt target iter:Expr}{ifs:List Expr}{scope:Scope}{pos:Pos}{it acc:Value}{env:Env}(I:Nat->Shared->Prop)
  (turn:∀n s,I n s->wpAny (model prog w) A (pyNext it) (fun r s₁=>match r with
   | none=>R (.ok .next) s₁
   | some v=>wpAny (model prog w) A (letOwnedTupleGo target it v) (fun _ s₁'=>wpAny (model prog w) A (assign target env v) (fun _ s₂=>
     wpAny (model prog w) A (forIn ifs true fun c r=>if r=true then do let ok <-isTrue c env (eval c env);pure (ForInStep.yield ok)else pure (ForInStep.yield r)) (fun ok s₃=>
      if ok=true then wpAny (model prog w) A (eval elt env) (fun x s₄=>
       wpAny (model prog w) A (call (.builtin "list.append") [acc,x]) (fun _ s₅=>∃m,m < n/\I m s₅) (notedBy (model prog w) A env fun e s'=>R (.error e) s') s₄) (notedBy (model prog w) A env fun e s'=>R (.error e) s') s₃
      else∃m,m < n/\I m s₃) (notedBy (model prog w) A env fun e s'=>R (.error e) s') s₂) (notedBy (model prog w) A env fun e s'=>R (.error e) s') s₁') (notedBy (model prog w) A env fun e s'=>R (.error e) s') s₁) (notedBy (model prog w) A env fun e s'=>R (.error e) s') s)
  (n:Nat) (h:I n s):
  codeAny (model prog w) A (.compLoop (.ListComp elt [⟨target,iter,ifs,0⟩] scope pos) 0 it acc env) R s:=by
 refine codeAny_loop rfl I (fun n s hI=>?_) n h
 show wpAny _ A ((compTurn (.ListComp elt [⟨target,iter,ifs,0⟩] scope pos) 0 it acc env).onRaise (fun x=>do noteFrame x env;theTreesLotGoes x)) _ _ s
 refine wpAny_noted ?_
 rw[compTurn_list]
 refine wpAny_bind (wpAny_standAt (wpAny_bind (wpAny_mono (turn n s hI) (fun r s₁ h₁=>?_) fun _ _ h'=>h')))
 cases r with
 | none=>exact wpAny_pure h₁
 | some v=>
  refine wpAny_bind (wpAny_mono h₁ (fun _ s₁' h₁'=>?_) fun _ _ h'=>h')
  refine wpAny_bind (wpAny_mono h₁' (fun _ s₂ h₂=>wpAny_bind (wpAny_mono h₂ (fun ok s₃ h₃=>?_) fun _ _ h'=>h')) fun _ _ h'=>h')
  cases ok with
  | false=>exact wpAny_pure ⟨rfl,h₃⟩
  | true=>
   exact wpAny_bind (wpAny_bind (wpAny_mono h₃ (fun x s₄ h₄=>wpAny_bind (wpAny_mono h₄ (fun _ s₅ h₅=>wpAny_pure (wpAny_pure ⟨rfl,h₅⟩)) fun _ _ h'=>h')) fun _ _ h'=>h'))
section
variable {X:Cx}
noncomputable def tLc(wi:TI)(g:TG)(tt:TT)(te:TE)(vs:List Nat):TE:=fun σ H Q=>wi σ H fun J H1=>∀D,H1 D=none->∃W:Nat->Nat->Hp->Prop,(∃m,W 0 m (upd H1 D (.lst [])))/\∀i m H,W i m H->
 (J.stop i H/\Q (.ref D) H)\/(J.go i H/\∃Nx:Hp->Prop,(∀H',Nx H'->∃m',m' < m/\W (i+1) m' H')/\∀x H',J.yld i H x H'->g x (zCi σ vs) H' fun σ2 H2=>zCi σ2 vs=zCi σ vs/\tt σ2 H2 fun b H3=>
  if b=true then te σ2 H3 fun y H4=>∃acc,H4 D=some (.lst acc)/\acc.length < sizeLine/\Nx (upd H4 D (.lst (acc++ [y])))else Nx H3)
theorem zPt{pins:List (Addr×Obj)}{s:Shared}{σ:St}{H:Hp}{Q:VK}{elt tg iter:Expr}{ifs:List Expr}{scope:Scope}{own:List (Str×Nat)}{pos pos':Pos}{wi:TI}{g:TG}{tt:TT}{te:TE}{use:Option (Value->Sem Unit)}{Qf:Value->Shared->Prop}
  (hc:X.calm=true) (hN:X.N.Nodup) (I:Inv X pins σ H s) (hi:PI X tg iter wi) (ok:zCf X.N X.env.scope scope own)
  (hg:∀(s:Shared) (H:Hp) (C:Addr) (cl:List (Str×Addr)) (fp:List Addr),PG (X.blk s H scope (compEnvC scope cl C X.env) fp) tg g) (ht:∀(s:Shared) (H:Hp) (C:Addr) (cl:List (Str×Addr)) (fp:List Addr),PTs (X.blk s H scope (compEnvC scope cl C X.env) fp) ifs tt)
  (he:∀(s:Shared) (H:Hp) (C:Addr) (cl:List (Str×Addr)) (fp:List Addr),PE (X.blk s H scope (compEnvC scope cl C X.env) fp) elt te) (hs:∀x,foldedSetIterable iter X.env x=pure x)
  (h:tLc wi g tt te (own.map (·.2)) σ H Q)
  (hRR:∀D C s' m H',Inv X pins σ H' s'->Q (.ref D) H'->s'.heap.Ns C m->zL7 X pins H' C->compPost (model X.prog X.w) X.A X.xe use Qf (.ref D) C (.ok .next) s'):
  wpAny (model X.prog X.w) X.A (comprehension (.ListComp elt [⟨tg,iter,ifs,0⟩] scope pos) scope X.env pos' (newList []) false (eval iter X.env) use) Qf X.xe s:=by
 have hfree:∀y∈scope.names,y.2= .free->∃c,X.env.cells.lookup y.1=some c:=fun y hy e=>by
  rcases ok.free y hy e with k | k
  ·exact I.ok.has _ (.inl k)
  ·exact I.ok.has _ (.inr k)
 refine wpAny_comprehension_free (use:=use) rfl hs (zI2 hfree) ok.kind (fun y hy e=>by rw[ok.uniq y hy,e])
  (thn (hi pins s σ H _ I h) fun xv s1 hx=>thn hx fun itv s2 h2=>?_)
 obtain⟨it,fp,tn,J,H2,e,I2,T,st2,f2,q⟩:=h2
 subst e
 refine wpAny_newObj_type (zHw ?_) (by show 0<=sizeLine;decide)
 generalize hD:s2.heap.objs.size=D
 have hDn:H2 D=none:=I2.hok.fresh (Nat.le_of_eq hD)
 obtain⟨W,⟨m0,w0⟩,turn⟩:=q D hDn
 generalize hs3:({s2 with heap:=s2.heap.push {cls:= .type "list",data:= .seq ([]:List Value).toArray}}:Shared)=s3
 have I3:Inv X pins σ (upd H2 D (.lst [])) s3:=by
  rw[<-hs3]
  refine I2.laid (t':=s2.toks) (fun b o e=>Heap.get?_push_of_some _ e) (Nat.le_of_eq hD) ⟨Nat.zero_le _,[],0,.nil,?_⟩
  rw[<-hD]
  exact Heap.get?_push_size _ rfl
 have h3:s3.heap=s2.heap.push {cls:= .type "list",data:= .seq ([]:List Value).toArray}:=by rw[<-hs3]
 have sz:∀b∈fp,b < s2.heap.objs.size:=fun b hb=>by
  obtain⟨o,e,_⟩:=T.obj _ _ st2 b hb
  exact Heap.lt_size e
 have f3:∀b∈fp,zL7 X pins (upd H2 D (.lst [])) b/\b < s3.heap.objs.size:=fun b hb=>by
  have hlt:=sz b hb
  refine⟨⟨?_,(f2 b hb).2⟩,by rw[h3,Heap.size_push];exact Nat.lt_succ_of_lt hlt⟩
  rw[zAj (by rw[<-hD];exact Nat.ne_of_lt hlt)]
  exact(f2 b hb).1
 have st3:tn 0 s3.heap:=T.keep _ _ _ st2 fun b _ o e=>by rw[h3];exact Heap.get?_push_of_some _ e
 have I4:=zHx I3 ok hN f3
 have pg:=hg s3 (upd H2 D (.lst [])) s3.heap.objs.size (cellsFrom (s3.heap.objs.size+1) scope.names (zBe X.env.cells scope.names [])) fp
 have pt:=ht s3 (upd H2 D (.lst [])) s3.heap.objs.size (cellsFrom (s3.heap.objs.size+1) scope.names (zBe X.env.cells scope.names [])) fp
 have pe:=he s3 (upd H2 D (.lst [])) s3.heap.objs.size (cellsFrom (s3.heap.objs.size+1) scope.names (zBe X.env.cells scope.names [])) fp
 show codeAny _ _ (.compStart (.ListComp elt [⟨tg,iter,ifs,0⟩] scope pos) 0 (.ref it) (.ref D) (compEnvC scope (cellsFrom (s3.heap.objs.size+1) scope.names (zBe X.env.cells scope.names [])) s3.heap.objs.size X.env)) (compPost (model X.prog X.w) X.A X.xe use Qf (.ref D) s3.heap.objs.size) {s3 with heap:=pushCells (s3.heap.push {cls:= .type "dict",data:= .dict #[]}) scope.names}
 have nfp:∀b∈fp,(upd H2 D (.lst [])) b=none:=fun b hb=>(f3 b hb).1.1
 generalize hce:compEnvC scope (cellsFrom (s3.heap.objs.size+1) scope.names (zBe X.env.cells scope.names [])) s3.heap.objs.size X.env=ce at I4 pg pt pe ⊢
 have cL:ce.locals=s3.heap.objs.size:=by subst hce;rfl
 generalize hH3:upd H2 D (.lst [])=H3 at I3 I4 pg pt pe w0 nfp f3
 generalize hs4:({s3 with heap:=pushCells (s3.heap.push {cls:= .type "dict",data:= .dict #[]}) scope.names}:Shared)=s4 at I4 ⊢
 have st4:tn 0 s4.heap:=T.keep _ _ _ st3 fun b _ o e=>by rw[<-hs4];exact pushCells_keeps _ _ _ _ (Heap.get?_push_of_some _ e)
 have stat:∀{σ':St} {H':Hp} {s':Shared},Inv (X.blk s3 H3 scope ce fp) [] σ' H' s'->(∀b∈fp,H' b=none)->∀b∈fp,zL7 (X.blk s3 H3 scope ce fp) [] H' b:=fun {σ' H' s'} I' hn b hb=>
  ⟨hn b hb,(I'.ok.exf b hb).1,I'.ok.exfs b hb,.inl hb,fun x c e=>(I'.ok.exf b hb).2 x c e,fun p hp=>absurd (show p∈([]:List (Addr×Obj)) ++ []from hp) (by simp)⟩
 have loop:codeAny (model X.prog X.w) X.A (.compLoop (.ListComp elt [⟨tg,iter,ifs,0⟩] scope pos) 0 (.ref it) (.ref D) ce) (compPost (model X.prog X.w) X.A X.xe use Qf (.ref D) s3.heap.objs.size) s4:=by
  refine zGt (fun n s'=>∃i H',Inv (X.blk s3 H3 scope ce fp) [] (zCi σ (own.map (·.2))) H' s'/\tn i s'.heap/\(∀b∈fp,H' b=none)/\W i n H') ?_ m0 ⟨0,H3,I4,st4,nfp,w0⟩
  rintro n s5 ⟨i,H5,I5,st5,n5,w5⟩
  rcases turn i n H5 w5 with⟨stop,qq⟩ | ⟨go,Nx,hNx,step⟩
  ·have td:=T.done (X.blk s3 H3 scope ce fp) rfl rfl rfl hc i [] s5 _ H5 (fun _ _=>False) I5 (stat I5 n5) st5 stop
   refine zPs td fun r s6 ⟨hr,I6⟩=>?_
   subst hr
   have I7:Inv X pins σ H5 s6:=I3.call' (ch:=fp) I6.os I6.base I6.hok I6.bare fun b hb=>⟨(f3 b hb).1.2.2.2.1,(f3 b hb).1.2.1,(f3 b hb).1.2.2.2.2.1,(f3 b hb).1.2.2.2.2.2⟩
   have nC:H5 s3.heap.objs.size=none:=by
    have z:H5 ce.locals=none:=I6.free
    rw[cL]at z
    exact z
   obtain⟨m,hn,_⟩:=I6.loc
   have hn:s6.heap.Ns ce.locals m:=hn
   rw[cL]at hn
   exact hRR D s3.heap.objs.size s6 m H5 I7 qq hn (I3.fpOk (Nat.le_refl _) nC)
  ·have ti:=T.item (X.blk s3 H3 scope ce fp) rfl rfl rfl hc i [] s5 _ H5 (fun _ _=>False) I5 (stat I5 n5) st5 go
   refine zPs ti fun r s6 ⟨u,hr,h6⟩=>?_
   subst hr
   refine zPs h6 fun _ s7 ⟨x,H7,I7,r7,y7,st7,n7⟩=>?_
   have I7':=I7.pinned (stat I7 n7) (T.obj _ _ st7)
   refine zPs (pg _ s7 _ H7 x u _ I7' r7 (step x H7 y7)) fun _ s8 ⟨σ8,H8,I8,hw8,q8⟩=>?_
   refine zPs (pt _ s8 σ8 H8 _ I8 q8) fun b s9 ⟨H9,I9,q9⟩=>?_
   have fin:∀{s':Shared} {H':Hp},Inv (X.blk s3 H3 scope ce fp) ([] ++zIv fp s7.heap) σ8 H' s'->Nx H'->∃m,m < n/\∃i H',Inv (X.blk s3 H3 scope ce fp) [] (zCi σ (own.map (·.2))) H' s'/\tn i s'.heap/\(∀b∈fp,H' b=none)/\W i m H':=fun {s' H'} I' nx=>by
    obtain⟨m',hm,w'⟩:=hNx H' nx
    have pin':∀b∈fp,∀o,s7.heap.get? b=some o->s'.heap.get? b=some o/\H' b=none:=fun b hb o e=>
     let z:=I'.pin (b,o) (List.mem_append_right _ (List.mem_append_right _ (zEo hb e)))
     ⟨z.1,z.2.1⟩
    have hl:(zCi σ (own.map (·.2))).length=σ8.length:=by rw[<-hw8,zDz]
    refine⟨m',hm,i+1,H',(I'.unpinned (pins:=[])).weak hl (fun j v e=>?_),T.keep _ _ _ st7 fun b hb o e=>(pin' b hb o e).1,fun b hb=>?_,w'⟩
    ·rw[<-hw8]at e
     exact(zFw e).1
    ·obtain⟨o,e,_⟩:=T.obj _ _ st7 b hb
     exact(pin' b hb o e).2
   cases b with
   | false=>
    simp only [Bool.false_eq_true,if_false]at q9 ⊢
    exact fin I9 q9
   | true=>
    simp only [if_true]at q9 ⊢
    refine zPs (pe _ s9 σ8 H9 _ I9 q9) fun z s10 ⟨yv,H10,I10,r10,acc,hD10,hz10,nx⟩=>?_
    exact zS6 (X:=X.blk s3 H3 scope ce fp) I10 hD10 hz10 r10 fun s11 I11=>fin I11 nx
 exact codeAny_compStart_list loop (T.self X.A 0 _ _ _ st4 loop)
theorem zEh{elt tg iter:Expr}{ifs:List Expr}{scope:Scope}{own:List (Str×Nat)}{pos:Pos}{wi:TI}{g:TG}{tt:TT}{te:TE}(hc:X.calm=true)(hN:X.N.Nodup)(hi:PI X tg iter wi)(ok:zCf X.N X.env.scope scope own)
  (hg:∀(s:Shared) (H:Hp) (C:Addr) (cl:List (Str×Addr)) (fp:List Addr),PG (X.blk s H scope (compEnvC scope cl C X.env) fp) tg g) (ht:∀(s:Shared) (H:Hp) (C:Addr) (cl:List (Str×Addr)) (fp:List Addr),PTs (X.blk s H scope (compEnvC scope cl C X.env) fp) ifs tt)
  (he:∀(s:Shared) (H:Hp) (C:Addr) (cl:List (Str×Addr)) (fp:List Addr),PE (X.blk s H scope (compEnvC scope cl C X.env) fp) elt te) (hs:∀x,foldedSetIterable iter X.env x=pure x:=by intro _;rfl):
  PE X (.ListComp elt [⟨tg,iter,ifs,0⟩] scope pos) (tLc wi g tt te (own.map (·.2))):=by
 intro pins s σ H Q I h
 rw[eval_ListComp]
 refine zPt hc hN I hi ok hg ht he hs h fun D C s' m H' I' q hn f=>⟨m,hn,fun h'' sb=>?_⟩
 obtain⟨f0,f1,f2,f3,f4,f5⟩:=f
 exact⟨.ref D,H',I'.turned (t':=s'.toks) (fun b o hb e=>(sb.2 b hb).trans e) f0 f1 f3 f4 f5,rfl,q⟩
theorem zG9{i:Nat}{y:Str}{py:Pos}{elt tg iter:Expr}{ifs:List Expr}{scope:Scope}{own:List (Str×Nat)}{pos spos:Pos}{wi:TI}{g:TG}{tt:TT}{te:TE}(hc:X.calm=true)(hN:X.N.Nodup)(hy:X.N[i]? =some y)(hyl:X.env.scope.names.lookup y=some .local)
  (hsw:swapsWith (.ListComp elt [⟨tg,iter,ifs,0⟩] scope pos) (some (.Name y py)) spos.line X.env=pure true) (hi:PI X tg iter wi) (ok:zCf X.N X.env.scope scope own)
  (hg:∀(s:Shared) (H:Hp) (C:Addr) (cl:List (Str×Addr)) (fp:List Addr),PG (X.blk s H scope (compEnvC scope cl C X.env) fp) tg g) (ht:∀(s:Shared) (H:Hp) (C:Addr) (cl:List (Str×Addr)) (fp:List Addr),PTs (X.blk s H scope (compEnvC scope cl C X.env) fp) ifs tt)
  (he:∀(s:Shared) (H:Hp) (C:Addr) (cl:List (Str×Addr)) (fp:List Addr),PE (X.blk s H scope (compEnvC scope cl C X.env) fp) elt te) (hs:∀x,foldedSetIterable iter X.env x=pure x:=by intro _;rfl):
  PS X (.Assign [.Name y py] (.ListComp elt [⟨tg,iter,ifs,0⟩] scope pos) spos) (zYj (tLc wi g tt te (own.map (·.2))) (zEx i)):=by
 intro pins s σ H D I h
 rw[exec_Assign_Name_used _ _ _ _ hsw]
 refine wpAny_bind (wpAny_standAt (wpAny_bind ?_))
 show wpAny _ X.A (do let _ <-comprehension (.ListComp elt [⟨tg,iter,ifs,0⟩] scope pos) scope X.env (firstIterPos [⟨tg,iter,ifs,0⟩] pos) (newList []) false (eval iter X.env) (some (assign (.Name y py) X.env))) _ _ s
 have h:tLc wi g tt te (own.map (·.2)) σ H (fun x H1=>zEx i x σ H1 D.nx):=h
 refine wpAny_bind (thn (zPt (Qf:=fun _ s'=>SP X pins D .next s') hc hN I hi ok hg ht he hs h fun L C s' m H' I' q hn f=>?_) fun _ s' hq=>wpAny_pure (wpAny_pure hq))
 show wpAny _ _ (assign (.Name y py) X.env (.ref L)) _ _ _
 refine wpAny_assign_Name (zHm (v:=V.ref L) I' hN hy (.inl hyl) rfl (fun s2 I2 ⟨a,sb,ha⟩=>?_) (.inr hyl))
 obtain⟨f0,f1,f2,f3,f4,f5⟩:=f
 have haC:C≠a:=by
  rcases ha with z | z
  ·rw[z];exact f1
  ·exact fun e=>f4 y a z e.symm
 refine⟨m,hn.sameBut sb haC,fun h3 sb3=>?_⟩
 exact⟨_,H',I2.turned (t':=s2.toks) (fun b o hb e=>(sb3.2 b hb).trans e) f0 f1 f3 f4 f5,q⟩
theorem zHy{elt:Expr}{gs:List Comprehension}{scope:Scope}{pos py:Pos}{y:Str}{l:Nat}{env:Env}(hk:env.scope.kind= .function)(hy:env.scope.names.lookup y=some .local)(hl:(py.line == pos.line)=true)
  (ha:(scope.names.any fun(n,k)=>n == y&& (k == .local || k == .cell))=false):swapsWith (.ListComp elt gs scope pos) (some (.Name y py)) l env=pure true:=by
 have ky:env.kindOf y=some .local:=hy
 have hb:env.blockKind= .function:=by unfold Env.blockKind;rw[hk];rfl
 unfold swapsWith
 simp only [hb,ky,ha,Expr.pos,hl]
 rfl
end
theorem zFx{lo:Int}{n:Nat}{g:TG}{tt:TT}{te:TE}{vs:List Nat}{σ:St}{H1:Hp}{D:Addr}{Qd:Hp->Prop}(Pv:Nat->Hp->Prop)(h0:Pv 0 (upd H1 D (.lst [])))
  (hs:∀i H,i < n->Pv i H->g (.int (lo+i)) (zCi σ vs) H fun σ2 H2=>zCi σ2 vs=zCi σ vs/\tt σ2 H2 fun b H3=>
   if b=true then te σ2 H3 fun y H4=>∃acc,H4 D=some (.lst acc)/\acc.length < sizeLine/\Pv (i+1) (upd H4 D (.lst (acc++ [y])))else Pv (i+1) H3) (hd:∀H,Pv n H->Qd H):
  ∃W:Nat->Nat->Hp->Prop,(∃m,W 0 m (upd H1 D (.lst [])))/\∀i m H,W i m H->
   ((Itr lo n).stop i H/\Qd H)\/((Itr lo n).go i H/\∃Nx:Hp->Prop,(∀H',Nx H'->∃m',m' < m/\W (i+1) m' H')/\∀x H',(Itr lo n).yld i H x H'->g x (zCi σ vs) H' fun σ2 H2=>zCi σ2 vs=zCi σ vs/\tt σ2 H2 fun b H3=>
    if b=true then te σ2 H3 fun y H4=>∃acc,H4 D=some (.lst acc)/\acc.length < sizeLine/\Nx (upd H4 D (.lst (acc++ [y])))else Nx H3):=by
 refine⟨fun i m H=>m=n - i/\i<=n/\Pv i H,⟨n,by simp,Nat.zero_le _,h0⟩,?_⟩
 rintro i m H ⟨rfl,hi,p⟩
 by_cases hlt:i < n
 ·refine .inr ⟨hlt,Pv (i+1),fun H' p'=>⟨n - (i+1),by omega,rfl,hlt,p'⟩,fun x H' y=>?_⟩
  obtain⟨e,y⟩:=y
  subst e y
  exact hs i _ hlt p
 ·have e:i=n:=by omega
  subst e
  exact .inl ⟨Nat.le_refl _,hd H p⟩
theorem zD0{K:PySem.W.Frag}{a:Addr}{xs:List V}{g:TG}{tt:TT}{te:TE}{vs:List Nat}{σ:St}{H1:Hp}{D:Addr}{Qd:Hp->Prop}(Pv:Nat->Hp->Prop)(h0:Pv 0 (upd H1 D (.lst [])))(hl:∀i H,i<=xs.length->Pv i H->SqL K H a xs)
  (hs:∀i x H,xs[i]? =some x->Pv i H->g x (zCi σ vs) H fun σ2 H2=>zCi σ2 vs=zCi σ vs/\tt σ2 H2 fun b H3=>
   if b=true then te σ2 H3 fun y H4=>∃acc,H4 D=some (.lst acc)/\acc.length < sizeLine/\Pv (i+1) (upd H4 D (.lst (acc++ [y])))else Pv (i+1) H3) (hd:∀H,Pv xs.length H->Qd H):
  ∃W:Nat->Nat->Hp->Prop,(∃m,W 0 m (upd H1 D (.lst [])))/\∀i m H,W i m H->
   ((Itl K a).stop i H/\Qd H)\/((Itl K a).go i H/\∃Nx:Hp->Prop,(∀H',Nx H'->∃m',m' < m/\W (i+1) m' H')/\∀x H',(Itl K a).yld i H x H'->g x (zCi σ vs) H' fun σ2 H2=>zCi σ2 vs=zCi σ vs/\tt σ2 H2 fun b H3=>
    if b=true then te σ2 H3 fun y H4=>∃acc,H4 D=some (.lst acc)/\acc.length < sizeLine/\Nx (upd H4 D (.lst (acc++ [y])))else Nx H3):=by
 refine⟨fun i m H=>m=xs.length - i/\i<=xs.length/\Pv i H,⟨xs.length,by simp,Nat.zero_le _,h0⟩,?_⟩
 rintro i m H ⟨rfl,hi,p⟩
 have q:=hl i H hi p
 by_cases hlt:i < xs.length
 ·refine .inr ⟨⟨xs,xs[i],q,by simp[hlt]⟩,Pv (i+1),fun H' p'=>⟨xs.length - (i+1),by omega,rfl,hlt,p'⟩,fun x H' y=>?_⟩
  obtain⟨e,y⟩:=y
  subst e
  exact hs i x _ (y xs q) p
 ·have e:i=xs.length:=by omega
  subst e
  exact .inl ⟨⟨xs,q,Nat.le_refl _⟩,hd H p⟩
end L2
namespace L2
open PySem PySem.Spec PyProof.Rows
section
variable {prog:Program} {w:World} {A:Around} {R:Result->Shared->Prop} {s:Shared} {elt t0 i0 t1 i1:Expr} {ifs0 ifs1:List Expr} {scope:Scope} {pos:Pos} {it acc:Value} {env:Env}
end
section
variable {X:Cx}
end
end L2
namespace L2
open PySem PySem.Spec PyProof.Rows
section
variable {κ:Type} [DecidableEq κ]
noncomputable def zFg(kvs:List (κ×V))(k:κ):Option V:=(kvs.find? fun kv=>decide (kv.1=k)).map (·.2)
noncomputable def zG2(kvs:List (κ×V))(k:κ)(v:V):List (κ×V):=
 if (kvs.any fun kv=>decide (kv.1=k))=true then kvs.map (fun kv=>if kv.1=k then(kv.1,v)else kv)else kvs++ [(k,v)]
theorem zCe{p:κ×V}{r:List (κ×V)}{k:κ}(e:p.1=k):zFg (p::r) k=some p.2:=by simp[zFg,List.find?_cons,e]
theorem zB5{p:κ×V}{r:List (κ×V)}{k:κ}(e:¬p.1=k):zFg (p::r) k=zFg r k:=by simp[zFg,List.find?_cons,e]
theorem zD1(k:κ):∀kvs:List (κ×V),(kvs.any fun kv=>decide (kv.1=k))=(zFg kvs k).isSome
 | []=>rfl
 | p::r=>by
  rw[List.any_cons]
  by_cases e:p.1=k
  ·simp only [zCe e,decide_eq_true e,Bool.true_or,Option.isSome_some]
  ·rw[zB5 e,decide_eq_false e,Bool.false_or];exact zD1 k r
theorem zNc(k j:κ)(y:V):∀kvs:List (κ×V),zFg (kvs.map fun kv=>if kv.1=k then(kv.1,y)else kv) j=(zFg kvs j).map fun x=>if j=k then y else x
 | []=>rfl
 | p::r=>by
  have ih:=zNc k j y r
  rw[List.map_cons]
  by_cases h:p.1=k
  ·rw[if_pos h]
   by_cases e:p.1=j
   ·rw[zCe (p:=(p.1,y)) e,zCe e,Option.map_some,if_pos (e.symm.trans h)]
   ·rw[zB5 (p:=(p.1,y)) e,zB5 e,ih]
  ·rw[if_neg h]
   by_cases e:p.1=j
   ·rw[zCe (p:=p) e,zCe e,Option.map_some,if_neg (fun z=>h (e.trans z))]
   ·rw[zB5 (p:=p) e,zB5 e,ih]
theorem zK9(k j:κ)(y:V):∀kvs:List (κ×V),zFg kvs k=none->zFg (kvs++ [(k,y)]) j=if j=k then some y else zFg kvs j
 | [],_=>by
  by_cases e:k=j
  ·rw[if_pos e.symm];exact zCe (p:=(k,y)) e
  ·rw[if_neg (fun z=>e z.symm)];exact zB5 (p:=(k,y)) e
 | p::r,hn=>by
  rw[List.cons_append]
  have hk:¬p.1=k:=fun z=>by rw[zCe z]at hn;cases hn
  rw[zB5 hk]at hn
  have ih:=zK9 k j y r hn
  by_cases e:p.1=j
  ·rw[zCe e,zCe e,if_neg (fun z=>hk (e.trans z))]
  ·rw[zB5 e,zB5 e,ih]
theorem zRr(kvs:List (κ×V))(k j:κ)(y:V):zFg (zG2 kvs k y) j=if j=k then some y else zFg kvs j:=by
 unfold zG2
 by_cases a:(kvs.any fun kv=>decide (kv.1=k))=true
 ·rw[if_pos a,zNc]
  rw[zD1]at a
  by_cases e:j=k
  ·obtain⟨x,hx⟩:=Option.isSome_iff_exists.mp a
   rw[if_pos e,e,hx,Option.map_some,if_pos rfl]
  ·rw[if_neg e]
   cases zFg kvs j with
   | none=>rfl
   | some x=>rw[Option.map_some,if_neg e]
 ·rw[if_neg a]
  refine zK9 k j y kvs ?_
  rw[zD1]at a
  cases q:zFg kvs k with
  | none=>rfl
  | some x=>rw[q]at a;exact(a rfl).elim
theorem zHz(kvs:List (κ×V))(k:κ)(v:V):(zG2 kvs k v).length<=kvs.length+1:=by
 unfold zG2
 split
 ·rw[List.length_map];omega
 ·rw[List.length_append,List.length_cons,List.length_nil];omega
theorem zJq{kvs:List (κ×V)}{k:κ}(v:V)(h:zFg kvs k=none):zG2 kvs k v=kvs++ [(k,v)]:=by
 unfold zG2
 rw[zD1,h]
 exact if_neg (by decide)
theorem RelO.isSome_eq{o:Option V}{u:Option Value}(r:RelO o u):o.isSome=u.isSome:=by
 cases o with
 | none=>cases u with
  | none=>rfl
  | some _=>exact(show False from r).elim
 | some _=>cases u with
  | none=>exact(show False from r).elim
  | some _=>rfl
theorem KV.val{kvs:List (κ×V)}{vs:List (κ×Value)}(r:KV kvs vs)(k:κ):RelO (zFg kvs k) (valueAt vs k):=by
 unfold KV at r
 induction r with
 | nil=>exact True.intro
 | @cons p q ps qs h t ih=>
  obtain⟨h1,h2⟩:=h
  by_cases e:p.1=k
  ·have e':q.1=k:=h1.symm.trans e
   have b:valueAt (q::qs) k=some q.2:=by simp[valueAt,List.find?_cons,e']
   rw[zCe e,b];exact h2
  ·have e':¬q.1=k:=fun z=>e (h1.trans z)
   have b:valueAt (q::qs) k=valueAt qs k:=by simp[valueAt,List.find?_cons,e']
   rw[zB5 e,b];exact ih
theorem KV.any{kvs:List (κ×V)}{vs:List (κ×Value)}(r:KV kvs vs)(k:κ):(kvs.any fun kv=>decide (kv.1=k))=vs.any fun kv=>decide (kv.1=k):=by
 unfold KV at r
 induction r with
 | nil=>rfl
 | cons h t ih=>rw[List.any_cons,List.any_cons,ih,h.1]
theorem KV.repl{kvs:List (κ×V)}{vs:List (κ×Value)}(r:KV kvs vs)(k:κ){y:V}{u:Value}(ry:RelV y u):
  KV (kvs.map fun kv=>if kv.1=k then(kv.1,y)else kv) (vs.map fun kv=>if kv.1=k then(kv.1,u)else kv):=by
 unfold KV at r ⊢
 induction r with
 | nil=>exact .nil
 | @cons p q ps qs h t ih=>
  rw[List.map_cons,List.map_cons]
  refine .cons ?_ ih
  obtain⟨h1,h2⟩:=h
  by_cases e:p.1=k
  ·rw[if_pos e,if_pos (h1.symm.trans e)];exact⟨h1,ry⟩
  ·rw[if_neg e,if_neg (fun z=>e (h1.trans z))];exact⟨h1,h2⟩
theorem KV.put{kvs:List (κ×V)}{vs:List (κ×Value)}(r:KV kvs vs)(k:κ){y:V}{u:Value}(ry:RelV y u):KV (zG2 kvs k y) (stored vs k u):=by
 unfold zG2 stored
 rw[r.any k]
 by_cases e:(vs.any fun kv=>decide (kv.1=k))=true
 ·rw[if_pos e,if_pos e];exact r.repl k ry
 ·rw[if_neg e,if_neg e];exact Paired.snoc r ⟨rfl,ry⟩
theorem KV.length{kvs:List (κ×V)}{vs:List (κ×Value)}(r:KV kvs vs):kvs.length=vs.length:=Paired.length r
end
theorem zRs{P:Program}{w:World}{k:Key}{u:Value}(r:RelV (kV k) u):(zBm P w).is k u=true:=by
 cases k with
 | inl i=>obtain⟨t,e⟩:=(show∃t,u=Value.int i t from r);subst e;exact zMc P w i t
 | inr x=>obtain⟨t,e⟩:=(show∃t,u=Value.str x t from r);subst e;exact zMd P w x t
theorem zLa{P:Program}{w:World}:∀{ks:List Key} {us:List Value},Vals (ks.map kV) us->ItemsAre (zBm P w) ks us
 | [],_,r=>by rw[List.map_nil]at r;cases r;exact .nil
 | k::ks,_,r=>by
  rw[List.map_cons]at r
  cases r with
  | cons h t=>exact .cons (zRs h) (zLa t)
noncomputable abbrev KT(H:Hp):List (List Key×V)->List (List Key×Addr×Value)->Prop:=Paired fun p q=>p.1=q.1/\H q.2.1=some (.tup (p.1.map kV))/\RelV p.2 q.2.2
theorem KT.val{H:Hp}{kvs:List (List Key×V)}{xs:List (List Key×Addr×Value)}(r:KT H kvs xs)(k:List Key):RelO (zFg kvs k) ((atKey xs k).map (·.2)):=by
 induction r with
 | nil=>exact True.intro
 | @cons p q ps qs h t ih=>
  obtain⟨h1,_,h2⟩:=h
  by_cases e:p.1=k
  ·have e':q.1=k:=h1.symm.trans e
   have b:atKey (q::qs) k=some q.2:=by simp[atKey,List.find?_cons,e']
   rw[zCe e,b];exact h2
  ·have e':¬q.1=k:=fun z=>e (h1.trans z)
   have b:atKey (q::qs) k=atKey qs k:=by simp[atKey,List.find?_cons,e']
   rw[zB5 e,b];exact ih
theorem KT.repl{H:Hp}{kvs:List (List Key×V)}{xs:List (List Key×Addr×Value)}(r:KT H kvs xs)(k:List Key){y:V}{u:Value}(ry:RelV y u):
  KT H (kvs.map fun kv=>if kv.1=k then(kv.1,y)else kv) (xs.map (putAt k u)):=by
 induction r with
 | nil=>exact .nil
 | @cons p q ps qs h t ih=>
  rw[List.map_cons,List.map_cons]
  refine .cons ?_ ih
  obtain⟨h1,h2,h3⟩:=h
  unfold putAt
  by_cases e:p.1=k
  ·rw[if_pos e,if_pos (h1.symm.trans e)];exact⟨h1,h2,ry⟩
  ·rw[if_neg e,if_neg (fun z=>e (h1.trans z))];exact⟨h1,h2,h3⟩
theorem KT.put{H:Hp}{kvs:List (List Key×V)}{xs:List (List Key×Addr×Value)}(r:KT H kvs xs)(k:List Key){b:Addr}{y:V}{u:Value}(hb:H b=some (.tup (k.map kV)))(ry:RelV y u):
  KT H (zG2 kvs k y) (storedH xs k b u):=by
 have e:(kvs.any fun kv=>decide (kv.1=k))=(atKey xs k).isSome:=by
  rw[zD1,(r.val k).isSome_eq,Option.isSome_map]
 unfold zG2 storedH
 rw[e]
 by_cases q:(atKey xs k).isSome=true
 ·rw[if_pos q,if_pos q];exact r.repl k ry
 ·rw[if_neg q,if_neg q];exact Paired.snoc r ⟨rfl,hb,ry⟩
theorem KT.keeps{H H':Hp}{kvs:List (List Key×V)}{xs:List (List Key×Addr×Value)}(r:KT H kvs xs)(ht:∀b ys,H b=some (.tup ys)->H' b=some (.tup ys)):KT H' kvs xs:=
 Paired.mapP r fun _ _ z=>⟨z.1,ht _ _ z.2.1,z.2.2⟩
section
variable {P:Program} {w:World} {H:Hp} {h:Heap} {a:Addr}
theorem zVy{u:HO}(ok:HOk P w H h)(e:Rd H a u):ObjOk P w H h a u:=e.ok ok
theorem zRt{kvs:List (Key×V)}(ok:HOk P w H h)(e:Rd H a (.dK kvs)):kvs.length<=sizeLine/\(a == sysModules)=false/\∃vs,KV kvs vs/\h.DictOf (zBm P w) a vs:=
 show ObjOk P w H h a (.dK kvs)from zVy ok e
theorem zYq{kvs:List (Key×V)}(ok:HOk P w H h)(e:H a=some (.dK kvs)):kvs.length<=sizeLine/\(a == sysModules)=false/\∃vs,KV kvs vs/\h.DictOf (zBm P w) a vs:=zRt ok (.inl e)
theorem zLb{ks:List Key}(ok:HOk P w H h)(e:H a=some (.tup (ks.map kV))):(tupleKind (zBm P w)).is h ks a:=by
 obtain⟨_,its,r,o,h1,h2,n,h3⟩:=(show ObjOk P w H h a (.tup (ks.map kV))from ok a _ e)
 exact⟨o,its.toArray,n,h1,h2,h3,by simpa using zLa r⟩
theorem zRu{kvs:List (List Key×V)}(ok:HOk P w H h)(e:Rd H a (.dT kvs)):kvs.length<=sizeLine/\(a == sysModules)=false/\
  ∃xs,KT H kvs xs/\h.DictOfH (tupleKind (zBm P w)) a xs:=by
 obtain⟨z,y,xs,r,o,es,ep,h1,h2,h3,h4,h5⟩:=(show ObjOk P w H h a (.dT kvs)from zVy ok e)
 refine⟨z,y,xs,r,o,es,ep,h1,h2,h3,h4,fun x hx=>?_,h5⟩
 have all:∀{l:List (List Key×V)} {m:List (List Key×Addr×Value)},KT H l m->∀x∈m,(tupleKind (zBm P w)).is h x.1 x.2.1:=by
  intro l m q
  induction q with
  | nil=>intro x hx;exact nomatch hx
  | @cons p q ps qs hq t ih=>
   intro x hx
   rcases List.mem_cons.mp hx with e | hx
   ·subst e
    exact zLb ok (by rw[<-hq.1];exact hq.2.1)
   ·exact ih x hx
 exact all r x hx
theorem zYr{kvs:List (List Key×V)}(ok:HOk P w H h)(e:H a=some (.dT kvs)):kvs.length<=sizeLine/\(a == sysModules)=false/\
  ∃xs,KT H kvs xs/\h.DictOfH (tupleKind (zBm P w)) a xs:=zRu ok (.inl e)
end
noncomputable def DGet(H:Hp)(a:Addr)(y:V)(r:Option V):Prop:=
 (∃kvs k,Rd H a (.dK kvs)/\y=kV k/\r=zFg kvs k)\/∃kvs k b,Rd H a (.dT kvs)/\y= .ref b/\H b=some (.tup (k.map kV))/\r=zFg kvs k
noncomputable def DPut(H:Hp)(a:Addr)(y v:V)(H':Hp):Prop:=
 (∃kvs k,H a=some (.dK kvs)/\y=kV k/\kvs.length < sizeLine/\H'=upd H a (.dK (zG2 kvs k v)))\/
 ∃kvs k b,H a=some (.dT kvs)/\y= .ref b/\H b=some (.tup (k.map kV))/\kvs.length < sizeLine/\H'=upd H a (.dT (zG2 kvs k v))
theorem DGet.t{H:Hp}{a b:Addr}{kvs:List (List Key×V)}{k:List Key}(e:H a=some (.dT kvs))(eb:H b=some (.tup (k.map kV))):DGet H a (.ref b) (zFg kvs k):= .inr ⟨kvs,k,b,.inl e,rfl,eb,rfl⟩
theorem DPut.k{H:Hp}{a:Addr}{kvs:List (Key×V)}{k:Key}{v:V}(e:H a=some (.dK kvs))(hl:kvs.length < sizeLine):DPut H a (kV k) v (upd H a (.dK (zG2 kvs k v))):= .inl ⟨kvs,k,e,rfl,hl,rfl⟩
theorem DPut.t{H:Hp}{a b:Addr}{kvs:List (List Key×V)}{k:List Key}{v:V}(e:H a=some (.dT kvs))(eb:H b=some (.tup (k.map kV)))(hl:kvs.length < sizeLine):
  DPut H a (.ref b) v (upd H a (.dT (zG2 kvs k v))):= .inr ⟨kvs,k,b,e,rfl,eb,hl,rfl⟩
section
variable {X:Cx} {pins:List (Addr×Obj)} {σ:St} {H:Hp} {s:Shared} {a:Addr} {y v:V} {u r:Value} {o:Option V} {A:Around} {E:Value->Shared->Prop}
theorem Inv.big(I:Inv X pins σ H s):sysModules < s.heap.objs.size:=by
 have h:mainGlobals < s.heap.objs.size:=(I.mod.glob.keeps I.bk).lt
 exact Nat.lt_trans (by decide) h
theorem zPu{Q:Value->Shared->Prop}(hu:A.units+1 < cLine)(I:Inv X pins σ H s)(g:DGet H a y (some v))(ry:RelV y u)(h:∀w' s',Inv X pins σ H s'->RelV v w'->Q w' s'):
  wpAny (model X.prog X.w) A (getItem (.ref a) u) Q E s:=by
 rcases g with⟨kvs,k,e,ey,l⟩ | ⟨kvs,k,b,e,ey,eb,l⟩
 ·subst ey
  obtain⟨z,hd,vs,rel,dd⟩:=zRt I.hok e
  obtain⟨w',hw,rw'⟩:=RelO.some_of (v:=v) (o:=valueAt vs k) (by rw[l];exact rel.val k)
  exact wpAny_getItem_of (zRs ry) dd.mapOf hw (h w' _ (I.tok _) rw')
 ·subst ey
  cases(show u=Value.ref b from ry)
  obtain⟨z,hd,xs,rel,dd⟩:=zRu I.hok e
  obtain⟨w',hw,rw'⟩:=RelO.some_of (v:=v) (o:=(atKey xs k).map (·.2)) (by rw[l];exact rel.val k)
  obtain⟨p,hp,hp2⟩:=Option.map_eq_some_iff.mp hw
  refine wpAny_getItem_heap (tupleKind_room_in1 hu) (zLb I.hok eb) dd hp ?_
  rw[hp2]
  exact h w' _ (I.tok _) rw'
theorem zUa{Q:Value->Shared->Prop}(hu:A.units+1 < cLine)(I:Inv X pins σ H s)(g:DGet H a y o)(ry:RelV y u)(h:∀s',Inv X pins σ H s'->Q (.bool (!o.isSome)) s'):
  wpAny (model X.prog X.w) A (compareOp .NotIn u (.ref a)) Q E s:=by
 rcases g with⟨kvs,k,e,ey,l⟩ | ⟨kvs,k,b,e,ey,eb,l⟩
 ·subst ey
  obtain⟨z,hd,vs,rel,dd⟩:=zRt I.hok e
  refine wpAny_notIn_of (zRs ry) hd dd.mapOf ?_
  rw[<-(rel.val k).isSome_eq,<-l]
  exact h _ (I.tok _)
 ·subst ey
  cases(show u=Value.ref b from ry)
  obtain⟨z,hd,xs,rel,dd⟩:=zRu I.hok e
  refine wpAny_notIn_heap (tupleKind_room_in1 hu) (zLb I.hok eb) hd dd ?_
  have q:=(rel.val k).isSome_eq
  rw[Option.isSome_map]at q
  rw[<-q,<-l]
  exact h _ (I.tok _)
theorem zMn{h':Heap}{t':Nat}{ob:HO}(I:Inv X pins σ H s)(mu:Mut (H a))(hs:Heap.SameBut a s.heap h')(he:∃q,h'.get? a=some q)(new:ObjOk X.prog X.w (upd H a ob) h' a ob):
  Inv X pins σ (upd H a ob) {s with heap:=h',toks:=t'}:=
 I.write (x:=a) (e:=a) mu (.inl rfl) (fun b q hb z=>(hs.2 b hb).trans z) he new
theorem zVz{P:Program}{w:World}{H':Hp}{h':Heap}{kvs:List (Key×V)}{vs:List (Key×Value)}(z:kvs.length<=sizeLine)(hd:(a == sysModules)=false)(rel:KV kvs vs)(dd:h'.DictOf (zBm P w) a vs):
  ObjOk P w H' h' a (.dK kvs):=⟨z,hd,vs,rel,dd⟩
theorem zPv{H':Hp}{Q:Unit->Shared->Prop}(hu:A.units+1 < cLine)(I:Inv X pins σ H s)(g:DPut H a y v H')(ry:RelV y u)(rv:RelV v r)(h:∀s',Inv X pins σ H' s'->Q () s'):
  wpAny (model X.prog X.w) A (setItem (.ref a) u r) Q E s:=by
 rcases g with⟨kvs,k,e,ey,l,eH⟩ | ⟨kvs,k,b,e,ey,eb,l,eH⟩
 ·subst ey eH
  obtain⟨z,hd,vs,rel,dd⟩:=zYq I.hok e
  have hz:vs.length<=sizeLine:=by rw[<-rel.length];exact z
  have hl:(zG2 kvs k v).length<=sizeLine:=by have:=zHz kvs k v;omega
  refine wpAny_setItem_pairs (hsz:=hz) (zRs ry) dd fun h' dd' hs=>h _ ?_
  have he:∃q,h'.get? a=some q:=let⟨q,_,_,hq,_⟩:=dd';⟨q,hq⟩
  exact zMn I (by rw[e];exact True.intro) hs he (zVz hl hd (rel.put k rv) dd')
 ·subst ey eH
  cases(show u=Value.ref b from ry)
  obtain⟨z,hd,xs,rel,dd⟩:=zYr I.hok e
  have hz:xs.length<=sizeLine:=by rw[<-Paired.length rel];exact z
  have hl:(zG2 kvs k v).length<=sizeLine:=by have:=zHz kvs k v;omega
  refine wpAny_setItem_heap (hsz:=hz) (tupleKind_room_in1 hu) (zLb I.hok eb) dd fun h' dd' hs=>h _ ?_
  obtain⟨q,es,ep,hq,h2,h3,h4,_,h5⟩:=dd'
  refine zMn I (by rw[e];exact True.intro) hs ⟨q,hq⟩ ⟨hl,hd,_,(rel.put k eb rv).keeps fun c ys ec=>?_,q,es,ep,hq,h2,h3,h4,h5⟩
  rw[zAj (zEw ec e (fun z=>nomatch z))]
  exact ec
end
section
variable {X:Cx} {pins:List (Addr×Obj)} {σ:St} {H:Hp} {s:Shared} {a:Addr} {kvs:List (Key×V)} {k:Key} {u:Value} {A:Around} {E:Value->Shared->Prop}
end
noncomputable def zYs(i:Expr):Prop:=∀ov iv,subscripted i false ov iv=operate [ov,iv] (getItem ov iv)
theorem zPw{prog:Program}{w:World}{A:Around}{E:Value->Shared->Prop}{s:Shared}{env:Env}{value slice:Expr}{pos:Pos}{T id:String}{Q:Value->Shared->Prop}
  (hl:typeLookup (.type T) "__getitem__" =pure (some (.builtin id))) (hs:zYs slice)
  (h:wpAny (model prog w) A (eval value env) (fun o s₁=>wpAny (model prog w) A (eval slice env) (fun i s₂=>s₂.TypeIs o T/\wpAny (model prog w) A (getItem o i) Q E s₂) E s₁) E s):
  wpAny (model prog w) A (eval (.Subscript value slice pos) env) Q E s:=by
 refine Subscript_ (wpAny_mono h (fun o s₁ h₁=>wpAny_mono h₁ (fun i s₂ h₂=>?_) fun _ _ x=>x) fun _ _ x=>x)
 obtain⟨hT,h₂⟩:=h₂
 unfold subscriptTail
 refine wpAny_bind ?_
 rw[getitemInPython_of_ne hT.not_modules]
 refine wpAny_bind (wpAny_specialOf hT hl ?_)
 have fin:wpAny (model prog w) A (subscripted slice false o i) (fun r s₃=>wpAny (model prog w) A (letTemporaryGo value o r >>= fun _=>pure r) Q E s₃) E s₂:=by
  rw[hs o i]
  exact wpAny_operating (wpAny_mono h₂ (fun r s₃ h₃=>wpAny_bind (wpAny_letTemporaryGo (wpAny_pure h₃))) fun _ _ x=>x)
 first
  | exact wpAny_pure (wpAny_bind fin)
  | exact wpAny_bind (wpAny_pure (wpAny_bind fin))
  | exact wpAny_bind fin
theorem zMo{X:Cx}{pins:List (Addr×Obj)}{σ:St}{H:Hp}{s:Shared}{a:Addr}{y:V}{o:Option V}(I:Inv X pins σ H s)(g:DGet H a y o):s.TypeIs (.ref a) "dict":=by
 rcases g with⟨kvs,k,e,_,_⟩ | ⟨kvs,k,b,e,_,_,_⟩
 ·obtain⟨_,_,vs,_,dd⟩:=zRt I.hok e
  exact dd.typeIs
 ·obtain⟨_,_,xs,_,dd⟩:=zRu I.hok e
  exact dd.typeIs
noncomputable def zYt(td ty:TE):TE:=fun σ H Q=>td σ H fun x H1=>ty σ H1 fun y H2=>∃a v,x= .ref a/\DGet H2 a y (some v)/\Q v H2
noncomputable def zUb(ty td:TE):TE:=fun σ H Q=>ty σ H fun y H1=>td σ H1 fun x H2=>∃a o,x= .ref a/\DGet H2 a y o/\Q (.bl (!o.isSome)) H2
noncomputable def zYu(td ty tv:TE):TS:=fun D σ H=>tv σ H fun v H1=>td σ H1 fun x H2=>ty σ H2 fun y H3=>∃a H4,x= .ref a/\DPut H3 a y v H4/\D.nx σ H4
section
variable {X:Cx} {o i e value:Expr} {pos pos' tpos:Pos} {td ty tv:TE}
theorem zMp(hu:X.A.units+1 < cLine)(ho:PE X o td)(hi:PE X i ty)(hs:zYs i):PE X (.Subscript o i pos) (zYt td ty):=by
 intro pins s σ H Q I h
 refine zPw PySem.F.slot_dict_getitem.lookup hs (thn (ho pins s σ H _ I h) fun u s1 ⟨x,H1,I1,rx,q1⟩=>thn (hi pins s1 σ H1 _ I1 q1) fun iv s2 ⟨y,H2,I2,ry,a,v,ex,g,q2⟩=>?_)
 subst ex
 obtain rfl:u=Value.ref a:=rx
 exact⟨zMo I2 g,zPu hu I2 g ry fun w' s3 I3 rw'=>⟨v,H2,I3,rw',q2⟩⟩
theorem zPx(hu:X.A.units+1 < cLine)(hi:PE X i ty)(ho:PE X o td):PC X .NotIn i o (zUb ty td):=by
 intro pins s σ H Q I h
 refine thn (hi pins s σ H _ I h) fun iv s1 ⟨y,H1,I1,ry,q1⟩=>thn (ho pins s1 σ H1 _ I1 q1) fun u s2 ⟨x,H2,I2,rx,a,ov,ex,g,q2⟩=>?_
 subst ex
 obtain rfl:u=Value.ref a:=rx
 exact zUa hu I2 g ry fun s3 I3=>⟨.bl (!ov.isSome),H2,I3,rfl,q2⟩
theorem zMq(hu:X.A.units+1 < cLine)(ho:PE X o td)(hi:PE X i ty)(hv:PE X value tv)(hs:swapsWith value (some (.Subscript o i pos')) pos.line X.env=pure false):
  PS X (.Assign [.Subscript o i pos'] value pos) (zYu td ty tv):=by
 intro pins s σ H D I h
 refine wpAny_Assign_Subscript (thn (hv pins s σ H _ I h) fun r s1 ⟨v,H1,I1,rv,q1⟩=>thn (ho pins s1 σ H1 _ I1 q1) fun u s2 ⟨x,H2,I2,rx,q2⟩=>thn (hi pins s2 σ H2 _ I2 q2) fun iv s3 ⟨y,H3,I3,ry,a,H4,ex,g,q3⟩=>?_) hs
 subst ex
 obtain rfl:u=Value.ref a:=rx
 exact zPv hu I3 g ry rv fun s4 I4=>⟨σ,H4,I4,q3⟩
end
theorem zRv{P:Program}{w:World}{H:Hp}(h:Heap)(hb:sysModules < h.objs.size):ObjOk P w H (h.push {cls:= .type "dict",data:= .dict #[]}) h.objs.size (.dK []):=
 ⟨Nat.zero_le _,beq_eq_false_iff_ne.mpr (Ne.symm (Nat.ne_of_lt hb)),[],.nil,Heap.DictOf.new h⟩
theorem zRw{P:Program}{w:World}{H:Hp}(h:Heap)(hb:sysModules < h.objs.size):ObjOk P w H (h.push {cls:= .type "dict",data:= .dict #[]}) h.objs.size (.dT []):=
 ⟨Nat.zero_le _,beq_eq_false_iff_ne.mpr (Ne.symm (Nat.ne_of_lt hb)),[],.nil,_,#[],0,Heap.get?_push_size _ rfl,⟨rfl,rfl,rfl⟩,rfl,rfl,List.nodup_nil⟩
noncomputable def zV0:TE:=fun _ H Q=>∀p,H p=none->Q (.ref p) (upd H p (.dK []))
noncomputable def zV1:TE:=fun _ H Q=>∀p,H p=none->Q (.ref p) (upd H p (.dT []))
section
variable {X:Cx} {pos:Pos}
theorem zNd:PE X (.Dict [] [] pos) zV0:=fun pins s σ H Q I h=>
 wpAny_Dict_empty ⟨.ref s.heap.objs.size,_,I.laid (a:=s.heap.objs.size) (o:= .dK []) (t':=s.toks) (fun _ _ q=>Heap.get?_push_of_some _ q) (Nat.le_refl _) (zRv s.heap I.big),rfl,h _ (I.hok.fresh (Nat.le_refl _))⟩
theorem zRx:PE X (.Dict [] [] pos) zV1:=fun pins s σ H Q I h=>
 wpAny_Dict_empty ⟨.ref s.heap.objs.size,_,I.laid (a:=s.heap.objs.size) (o:= .dT []) (t':=s.toks) (fun _ _ q=>Heap.get?_push_of_some _ q) (Nat.le_refl _) (zRw s.heap I.big),rfl,h _ (I.hok.fresh (Nat.le_refl _))⟩
end
section
variable {X:Cx} {pins:List (Addr×Obj)} {σ:St} {H:Hp} {s:Shared} {a:Addr} {y d:V} {u r:Value} {o:Option V} {A:Around} {E:Value->Shared->Prop}
end
section
variable {X:Cx} {o e f:Expr} {apos cpos:Pos} {td ty tx:TE}
end
section
variable {X:Cx} {pins:List (Addr×Obj)} {σ:St} {H:Hp} {s:Shared} {a:Addr} {kvs:List (Key×V)} {A:Around} {E:Value->Shared->Prop}
end
section
variable {X:Cx} {pins:List (Addr×Obj)} {σ:St} {H:Hp} {s:Shared} {a:Addr} {y:V} {u:Value} {A:Around} {E:Value->Shared->Prop}
end
end L2
namespace L2
open PySem PySem.Spec PyProof.Rows
section
variable {prog:Program} {w:World} {A:Around} {E:Value->Shared->Prop}
end
section
variable {X:Cx}
end
end L2
namespace L2
open PySem PySem.Spec PyProof.Rows
section
variable {X:Cx} {pins:List (Addr×Obj)} {σ:St} {H:Hp} {s:Shared} {h':Heap}
theorem Inv.turnedL{t':Nat}{ch:List Addr}(I:Inv X pins σ H s)(k:∀b o,b∉ch->s.heap.get? b=some o->h'.get? b=some o)(hf:∀b∈ch,zL7 X pins H b):Inv X pins σ H {s with heap:=h',toks:=t'}:=by
 have nit:∀b u,H b=some u->b∉ch:=fun b u e z=>by
  have q:=(hf b z).1
  rw[q]at e;cases e
 refine I.step (g':=s.gens) (d':=s.drawn) (ch:=ch) (fun b hb=>⟨(hf b hb).2.2.2.1,(hf b hb).2.1,(hf b hb).2.2.2.2.1,(hf b hb).2.2.2.2.2⟩) (fun b o _ _ hc e _=>k b o hc e) (fun b o _ _ hc e _=>⟨o.slots,k b o hc e⟩)
  (fun _ _ _ _ n=>n) (fun b o hc e=>⟨o,k b o hc e⟩) (fun _ _ e=>e) (fun _ _ _ e=>e) (fun b ps e=>⟨#[],by rw[e];simp⟩) (fun m hm=>?_) (fun b u e=>?_) I.bare
 ·obtain⟨o,es,ep,ho,r⟩:=hm
  exact⟨o,es,ep,k _ o (fun z=>(hf _ z).2.1 rfl) ho,r⟩
 ·refine(I.hok b u e).stay (fun c v hc q=>k c v ?_ q) (fun _ q=>q) fun _ _ q=>q
  rcases hc with z | z
  ·rw[z];exact nit b u e
  ·exact nit c _ z
theorem Inv.turnedNew{t':Nat}{ch:List Addr}{T:Addr}{ob:HO}(I:Inv X pins σ H s)(k:∀b o,b∉ch->s.heap.get? b=some o->h'.get? b=some o)(hf:∀b∈ch,zL7 X pins H b)(hT:s.heap.objs.size<=T)
  (new:ObjOk X.prog X.w (upd H T ob) h' T ob):Inv X pins σ (upd H T ob) {s with heap:=h',toks:=t'}:=by
 have hn:H T=none:=I.hok.fresh hT
 have nit:∀b u,H b=some u->b∉ch:=fun b u e z=>by
  have q:=(hf b z).1
  rw[q]at e;cases e
 refine I.step (g':=s.gens) (d':=s.drawn) (ch:=ch) (fun b hb=>⟨(hf b hb).2.2.2.1,(hf b hb).2.1,(hf b hb).2.2.2.2.1,(hf b hb).2.2.2.2.2⟩) (fun b o _ _ hc e _=>k b o hc e) (fun b o _ _ hc e _=>⟨o.slots,k b o hc e⟩)
  (fun b o _ e n=>?_) (fun b o hc e=>⟨o,k b o hc e⟩) (fun b xs e=>?_) (fun b o u e=>?_) (fun b ps e=>⟨#[],?_⟩) (fun m hm=>?_) (fun b u e=>?_) I.bare
 ·rw[zAj (Nat.ne_of_lt (Nat.lt_of_lt_of_le (Heap.lt_size e) hT))];exact n
 ·rw[zAj (zAo e hn)];exact e
 ·rw[zAj (zAo e hn)];exact e
 ·rw[zAj (zAo e hn),e];simp
 ·obtain⟨o,es,ep,ho,r⟩:=hm
  exact⟨o,es,ep,k _ o (fun z=>(hf _ z).2.1 rfl) ho,r⟩
 ·by_cases hb:b=T
  ·subst hb
   rw[zAb]at e
   cases e
   exact new
  ·rw[zAj hb]at e
   refine(I.hok b u e).stay (fun c v hc q=>k c v ?_ q) (fun c q=>by rw[zAj (zAo q hn)];exact q) fun c xs q=>by rw[zAj (zAo q hn)];exact q
   rcases hc with z | z
   ·rw[z];exact nit b u e
   ·exact nit c _ z
theorem Inv.lock{d:Addr}{u:HO}(I:Inv X pins σ H s)(h:H d=some u)(mu:Mut (some u)):∃od,Inv X pins σ (upd H d (.frz od u)) s:=by
 have x:=I.hok d u h
 have ex:∃od,s.heap.get? d=some od:=by
  cases u with
  | lst xs=>obtain⟨_,_,_,_,e⟩:=x;exact⟨_,e⟩
  | dK kvs=>obtain⟨_,_,_,_,o,_,_,e,_⟩:=x;exact⟨o,e⟩
  | dT kvs=>obtain⟨_,_,_,_,o,_,_,e,_⟩:=x;exact⟨o,e⟩
  | set S n=>obtain⟨o,_,_,_,e,_⟩:=x;exact⟨o,e⟩
  | ins C dx fs=>obtain⟨_,_,_,e,_⟩:=x;exact⟨_,e⟩
  | ext φ=>obtain⟨_,⟨_,e⟩,_⟩:=x;exact⟨_,e⟩
  | _=>exact False.elim mu
 obtain⟨od,e⟩:=ex
 have new:ObjOk X.prog X.w (upd H d (.frz od u)) s.heap d (.frz od u):=by
  refine⟨e,x.stay (fun b v _ q=>q) (fun b q=>?_) fun b xs q=>?_⟩
  ·rw[zAj (fun z=>by rw[z,h]at q;cases q;exact mu)];exact q
  ·rw[zAj (fun z=>by rw[z,h]at q;cases q;exact mu)];exact q
 exact⟨od,I.write (x:=d) (e:=d) (t':=s.toks) (h':=s.heap) (by rw[h];exact mu) (.inl rfl) (fun b v _ q=>q) ⟨od,e⟩ new⟩
theorem Inv.nofrz{d:Addr}{u:HO}(I:Inv X pins σ H s)(h:H d=some u)(mu:Mut (some u)):∀o' u',X.H_0 d≠some (.frz o' u'):=fun o' u' e=>by
 have q:=I.base.frzs d o' u' e
 rw[h]at q
 cases q
 exact mu
theorem Inv.unlock{d:Addr}{od:Obj}{u:HO}(I:Inv X pins σ H s)(h:H d=some (.frz od u))(hn:∀o' u',X.H_0 d≠some (.frz o' u')):Inv X pins σ (upd H d u) s:=by
 have neH:∀b o,H b=some o->(∀o' u',o≠.frz o' u')->b≠d:=fun b o e hne z=>by
  rw[z,h]at e
  cases e
  exact hne _ _ rfl
 have neN:∀b,H b=none->b≠d:=fun b e z=>by rw[z,h]at e;cases e
 refine⟨I.ok,I.os,I.bare,⟨I.base.keep,I.base.slot,fun b o e n hx=>?_,I.base.there,fun b xs e=>?_,fun b o x e=>?_,fun b ps e=>?_⟩,I.loc,I.cell,?_,fun x c e=>?_,fun p hp=>?_,fun b o e=>?_,I.len⟩
 ·rw[zAj (neN b (I.base.free b o e n hx))];exact I.base.free b o e n hx
 ·have q:=I.base.tups b xs e
  rw[zAj (neH b _ q (fun _ _ z=>nomatch z))];exact q
 ·have q:=I.base.frzs b o x e
  rw[zAj (fun z=>by rw[z]at e;exact hn _ _ e)];exact q
 ·obtain⟨m,q⟩:=I.base.tbls b ps e
  exact⟨m,by rw[zAj (neH b _ q (fun _ _ z=>nomatch z))];exact q⟩
 ·rw[zAj (neN _ I.free)];exact I.free
 ·rw[zAj (neN c (I.freeC x c e))];exact I.freeC x c e
 ·obtain⟨e,n,r⟩:=I.pin p hp
  exact⟨e,by rw[zAj (neN _ n)];exact n,r⟩
 ·by_cases hb:b=d
  ·rw[hb,zAb]at e
   cases e
   rw[hb]
   obtain⟨_,x⟩:=I.hok d _ h
   exact x.stay (fun c v _ q=>q) (fun c q=>by rw[zAj (neH c _ q (fun _ _ z=>nomatch z))];exact q) fun c xs q=>by rw[zAj (neH c _ q (fun _ _ z=>nomatch z))];exact q
  ·rw[zAj hb]at e
   exact(I.hok b o e).stay (fun c v _ q=>q) (fun c q=>by rw[zAj (neH c _ q (fun _ _ z=>nomatch z))];exact q) fun c xs q=>by rw[zAj (neH c _ q (fun _ _ z=>nomatch z))];exact q
end
noncomputable def zYv(t:TS):TS:=fun D σ H=>∃d u,H d=some u/\Mut (some u)/\∀od,t ⟨fun σ' H'=>H' d=some (.frz od u)/\D.nx σ' (upd H' d u),fun v H'=>H' d=some (.frz od u)/\D.rt v (upd H' d u),fun σ' H'=>H' d=some (.frz od u)/\D.bk σ' (upd H' d u),fun σ' H'=>H' d=some (.frz od u)/\D.ct σ' (upd H' d u)⟩ σ (upd H d (.frz od u))
section
variable {X:Cx}
theorem zUc{st:Stmt}{t:TS}(h:PS X st t):PS X st (zYv t):=by
 intro pins s σ H D I hw
 obtain⟨d,u,hd,mu,hw⟩:=hw
 obtain⟨od,I1⟩:=I.lock hd mu
 refine thn (h pins s σ _ _ I1 (hw od)) fun f s1 q=>?_
 cases f with
 | next=>obtain⟨σ',H',I2,e,q⟩:=q;exact⟨σ',_,I2.unlock e (I.nofrz hd mu),q⟩
 | brk=>obtain⟨σ',H',I2,e,q⟩:=q;exact⟨σ',_,I2.unlock e (I.nofrz hd mu),q⟩
 | cont=>obtain⟨σ',H',I2,e,q⟩:=q;exact⟨σ',_,I2.unlock e (I.nofrz hd mu),q⟩
 | ret v=>obtain⟨x,σ',H',I2,r,e,q⟩:=q;exact⟨x,σ',_,I2.unlock e (I.nofrz hd mu),r,q⟩
theorem zS7{tg:Expr}{pins:List (Addr×Obj)}{σ:St}{H:Hp}{s:Shared}{R:It->Hp->Prop}{J:It}{tn:Nat->Heap->Prop}{tk:Nat}(I:Inv X pins σ H s)(o:Obj)
  (T:zQ8 X.prog X.w X.K tg J [s.heap.objs.size] s.heap.objs.size tn) (st:tn 0 (s.heap.push o)) (q:R J H):PIE X pins σ tg R (.ref s.heap.objs.size) {s with heap:=s.heap.push o,toks:=tk}:=by
 refine⟨s.heap.objs.size,[s.heap.objs.size],tn,J,H,rfl,I.kept fun b ob e=>Heap.get?_push_of_some _ e,T,st,fun b hb=>?_,q⟩
 have e:b=s.heap.objs.size:=by simpa using hb
 subst e
 exact I.fpOk (Nat.le_refl _) (I.hok.fresh (Nat.le_refl _))
end
section
variable {X:Cx} {tg:Expr}
end
section
variable {X:Cx} {tg:Expr}
end
section
variable {prog:Program} {w:World} {A:Around} {E:Value->Shared->Prop} {s:Shared}
theorem zLc{d:Addr}{o:Obj}{es:Array DictEntry}{ep:Nat}{Q:Value->Shared->Prop}(hd:(d == sysModules)=false)(ho:s.heap.get? d=some o)(hc:o.ExactDict)(hdat:o.data= .dict es ep)
  (hQ:Q (.ref s.heap.objs.size) {s with heap:=s.heap.push {cls:= .type "dict_keyiterator",data:= .fields #[.ref d,.int 0 0,.int es.size 0,.int ep 0]}}):
  wpAny (model prog w) A (pyIter (.ref d)) Q E s:=by
 have hT:s.TypeIs (.ref d) "dict":=⟨o,ho,hc.1⟩
 refine wpAny_pyIter_slot hT F.slot_dict_iter (wpAny_call_entry F.slot_dict_iter hT F.entry_dict_iter ?_ (F.args_dict_iter_1 _))
 unfold Builtin.«dict.__iter__»
 refine wpAny_bind ?_
 unfold Builtin.Dict.dictSlotNone
 refine wpAny_bind (wpAny_notOrdered_dict hT ?_)
 show wpAny _ _ (pure (Value.ref d)) _ _ s
 refine wpAny_pure ?_
 show wpAny _ _ (Builtin.Dict.showsAll d >>= _) _ _ s
 unfold Builtin.Dict.showsAll
 rw[if_neg (by rw[hd];exact Bool.false_ne_true)]
 refine wpAny_bind (wpAny_pure ?_)
 refine wpAny_bind (wpAny_dictEntries ho hdat ?_)
 refine wpAny_bind (wpAny_dictEpoch ho hdat ?_)
 refine wpAny_bind (wpAny_newObj_type (wpAny_pure ⟨_,rfl,"dict_keyiterator",_,⟨_,Heap.get?_push_size _ rfl,rfl⟩,F.slot_dict_keyiterator_next.lookup,?_⟩))
 simpa [rawInt]using hQ
theorem zJr{it d:Addr}{i n ep:Nat}{od:Obj}{es:Array DictEntry}{en:DictEntry}{Q:Option Value->Shared->Prop}(hit:s.heap.IsKeyIter it d i n ep)(hod:s.heap.get? d=some od)(hdd:od.data= .dict es ep)
  (hsz:es.size=n) (hx:es[i]? =some en) (hQ:∀h',h'.IsKeyIter it d (i+1) n ep->Heap.SameBut it s.heap h'->Q (some en.key) {s with heap:=h'}):wpAny (model prog w) A (pyNext (.ref it)) Q E s:=by
 obtain⟨o,ho,hc,hd⟩:=id hit
 unfold pyNext
 refine wpAny_bind (wpAny_attempt (wpAny_callSpecial?_slot (name:=Str.ofString "__next__") hit.typeIs F.slot_dict_keyiterator_next
  (wpAny_call_entry F.slot_dict_keyiterator_next hit.typeIs F.entry_dict_keyiterator_next ?_ (F.args_dict_keyiterator_next_1 _))))
 refine wpAny_bind (wpAny_pure ?_)
 refine wpAny_bind ?_
 refine wpAny_bind ?_
 first | refine wpAny_bind (wpAny_typeNameOfWhole_keyiter hit.typeIs (wpAny_pure ?_)) | refine wpAny_bind (wpAny_typeNameOf_keyiter hit.typeIs (wpAny_pure ?_))
 refine wpAny_bind (wpAny_fieldsOf ho hd ?_)
 have hown:Builtin.Dict_items.ownsTuple "dict_keyiterator" =false:=by decide
 simp only [hown,Bool.false_eq_true,if_false]
 show wpAny _ _ (if (Value.ref d == Value.none)=true then _ else _) _ _ s
 rw[if_neg (show¬((Value.ref d == Value.none)=true)from Bool.false_ne_true)]
 refine wpAny_bind (wpAny_pure ?_)
 refine wpAny_bind (wpAny_dictEntries hod hdd ?_)
 rw[if_neg (by rw[hsz];simp)]
 refine wpAny_bind (wpAny_pure ?_)
 refine wpAny_bind (wpAny_dictEpoch hod hdd ?_)
 rw[if_neg (by simp)]
 refine wpAny_pure ?_
 obtain⟨hlt',hen⟩:=Array.getElem?_eq_some_iff.mp hx
 simp only [show¬((i:Int) < 0)from by omega,if_false,Int.toNat_natCast,Array.getElem?_eq_getElem hlt']
 refine wpAny_bind ?_
 first | refine wpAny_bind (wpAny_typeNameOfWhole_keyiter hit.typeIs (wpAny_pure ?_)) | refine wpAny_bind (wpAny_typeNameOf_keyiter hit.typeIs (wpAny_pure ?_))
 refine wpAny_bind (wpAny_isOneOf_keyiter hit.typeIs ?_)
 show wpAny _ _ (setField (.ref it) 1 (rawInt ((i:Int) +1)) >>= _) _ _ s
 refine wpAny_bind (wpAny_setField ho hd (by simp) ?_)
 have hit':(s.heap.update it (Obj.mapFields (·.setIfInBounds 1 (rawInt ((i:Int) +1))))).IsKeyIter it d (i+1) n ep:=
  ⟨_,Heap.get?_update_self _ ho (Obj.isFreed_of_fields (Obj.data_mapFields hd _)),(Obj.cls_mapFields ..).trans hc,by rw[Obj.data_mapFields hd];simp[rawInt]⟩
 refine wpAny_bind (wpAny_holding ?_)
 refine wpAny_bind (wpAny_isOneOf_keyiter (s:={s with heap:=s.heap.update it (Obj.mapFields (·.setIfInBounds 1 (rawInt ((i:Int) +1))))}) hit'.typeIs ?_)
 show wpAny _ _ (pure es[i].key) _ _ _
 rw[hen]
 exact wpAny_pure (wpAny_pure ⟨_,rfl,wpAny_pure (hQ _ hit' (Heap.SameBut.update ..))⟩)
theorem zGu{it d:Addr}{i n ep:Nat}{od:Obj}{es:Array DictEntry}{Q:Option Value->Shared->Prop}(hh:A.handled=none)(hit:s.heap.IsKeyIter it d i n ep)(hod:s.heap.get? d=some od)(hdd:od.data= .dict es ep)
  (hsz:es.size=n) (hge:n<=i) (hQ:∀h',Heap.ExtBut it s.heap h'->Q none {s with heap:=h'}):wpAny (model prog w) A (pyNext (.ref it)) Q E s:=by
 obtain⟨o,ho,hc,hd⟩:=id hit
 unfold pyNext
 refine wpAny_bind (wpAny_attempt (wpAny_callSpecial?_slot (name:=Str.ofString "__next__") hit.typeIs F.slot_dict_keyiterator_next
  (wpAny_call_entry F.slot_dict_keyiterator_next hit.typeIs F.entry_dict_keyiterator_next ?_ (F.args_dict_keyiterator_next_1 _))))
 refine wpAny_bind (wpAny_pure ?_)
 refine wpAny_bind ?_
 refine wpAny_bind ?_
 first | refine wpAny_bind (wpAny_typeNameOfWhole_keyiter hit.typeIs (wpAny_pure ?_)) | refine wpAny_bind (wpAny_typeNameOf_keyiter hit.typeIs (wpAny_pure ?_))
 refine wpAny_bind (wpAny_fieldsOf ho hd ?_)
 have hown:Builtin.Dict_items.ownsTuple "dict_keyiterator" =false:=by decide
 simp only [hown,Bool.false_eq_true,if_false]
 show wpAny _ _ (if (Value.ref d == Value.none)=true then _ else _) _ _ s
 rw[if_neg (show¬((Value.ref d == Value.none)=true)from Bool.false_ne_true)]
 refine wpAny_bind (wpAny_pure ?_)
 refine wpAny_bind (wpAny_dictEntries hod hdd ?_)
 rw[if_neg (by rw[hsz];simp)]
 refine wpAny_bind (wpAny_pure ?_)
 refine wpAny_bind (wpAny_dictEpoch hod hdd ?_)
 rw[if_neg (by simp)]
 refine wpAny_pure ?_
 have hge':es.size<=i:=by rw[hsz];exact hge
 simp only [show¬((i:Int) < 0)from by omega,if_false,Int.toNat_natCast,Array.getElem?_eq_none hge']
 refine wpAny_bind ?_
 first | refine wpAny_bind (wpAny_typeNameOfWhole_keyiter hit.typeIs (wpAny_pure ?_)) | refine wpAny_bind (wpAny_typeNameOf_keyiter hit.typeIs (wpAny_pure ?_))
 show wpAny _ _ (setField (.ref it) 0 .none >>= _) _ _ s
 refine wpAny_bind (wpAny_setField ho hd (by simp) ?_)
 show wpAny _ _ (newExc (.type "StopIteration") [] >>= _) _ _ _
 refine wpAny_bind ?_
 simp only [newExc,newTuple]
 refine wpAny_bind (wpAny_newObj_type ?_ (by size_fits))
 refine wpAny_bind (m:=firstArgMember _ _) (wpAny_of_eq (a:=Value.none) (by first | rfl | (simp only [firstArgMember];rfl)) ?_)
 refine wpAny_newObj_type ?_ (by size_fits)
 simp only [raiseNew]
 refine wpAny_bind (wpAny_handled ?_)
 rw[show A.in1.handled=none from hh]
 refine wpAny_bind (wpAny_pure (wpAny_throw ?_))
 refine wpAny_bind (wpAny_isInstance (T:="StopIteration") (b:=true) ⟨_,Heap.get?_push_size _ rfl,rfl⟩ isSubtype_stop ?_)
 exact wpAny_pure (hQ _ (((Heap.SameBut.update ..).extBut.push _).push _))
end
theorem zV2{κ:Type}{kvs:List (κ×V)}{vs:List (κ×Value)}(h:KV kvs vs):∀{i:Nat} {k:κ} {v:V},kvs[i]? =some (k,v)->∃u,vs[i]? =some (k,u)/\RelV v u:=by
 unfold KV at h
 induction h with
 | nil=>intro i k v e;simp at e
 | @cons a b l₁ l₂ r t ih=>
  intro i k v e
  cases i with
  | zero=>
   simp only [List.getElem?_cons_zero,Option.some.injEq]at e
   subst e
   refine⟨b.2,?_,r.2⟩
   simp only [List.getElem?_cons_zero]
   exact congrArg some (Prod.ext r.1.symm rfl)
  | succ j=>
   simp only [List.getElem?_cons_succ]at e ⊢
   exact ih e
theorem zOj{α β:Type}{G:α->β->Prop}{l₁:List α}{l₂:List β}(h:Paired G l₁ l₂):∀{i:Nat} {a:α},l₁[i]? =some a->∃b,l₂[i]? =some b/\G a b:=by
 induction h with
 | nil=>intro i a e;simp at e
 | @cons a b l₁ l₂ r t ih=>
  intro i a' e
  cases i with
  | zero=>
   simp only [List.getElem?_cons_zero,Option.some.injEq]at e
   subst e
   exact⟨b,rfl,r⟩
  | succ j=>
   simp only [List.getElem?_cons_succ]at e ⊢
   exact ih e
theorem zRy{k:Key}{u:Value}(h:zKu k u=true):RelV (kV k) u:=by
 rcases zBl h with⟨i,t,rfl,rfl⟩ | ⟨x,t,rfl,rfl⟩
 ·exact⟨t,rfl⟩
 ·exact⟨t,rfl⟩
section
variable {X:Cx} {pins:List (Addr×Obj)} {σ:St} {H:Hp} {s:Shared} {d:Addr} {o:Obj}
theorem Inv.frzK{kvs:List (Key×V)}(I:Inv X pins σ H s)(h:H d=some (.frz o (.dK kvs))):
  (d == sysModules)=false/\s.heap.get? d=some o/\o.ExactDict/\∃(es:Array DictEntry) (ep:Nat) (vs:List (Key×Value)),o.data= .dict es ep/\es.size=kvs.length/\KV kvs vs/\s.heap.DictAt (zBm X.prog X.w) d vs ep:=by
 obtain⟨hd,z,hs,vs,kv,o',es,ep,ho,hx,hdt,r⟩:=I.hok d _ h
 rw[hd]at ho
 cases ho
 refine⟨hs,hd,hx,es,ep,vs,hdt,?_,kv,o,es,hd,hx,hdt,r⟩
 have l1:=r.2.1.length
 have l2:kvs.length=vs.length:=Paired.length kv
 rw[Array.length_toList]at l1
 omega
theorem Inv.frzT{kvs:List (List Key×V)}(I:Inv X pins σ H s)(h:H d=some (.frz o (.dT kvs))):
  (d == sysModules)=false/\s.heap.get? d=some o/\o.ExactDict/\∃(es:Array DictEntry) (ep:Nat),o.data= .dict es ep/\es.size=kvs.length/\
   ∀(i:Nat) (k:List Key) (v:V),kvs[i]? =some (k,v)->∃(en:DictEntry) (q:Addr),es[i]? =some en/\en.key= .ref q/\H q=some (.tup (k.map kV)):=by
 obtain⟨hd,z,hs,xs,pr,o',es,ep,ho,hx,hdt,he,_⟩:=I.hok d _ h
 rw[hd]at ho
 cases ho
 refine⟨hs,hd,hx,es,ep,hdt,?_,fun i k v e=>?_⟩
 ·have l1:es.size=xs.length:=size_of_entries he
  have l2:kvs.length=xs.length:=Paired.length pr
  omega
 ·obtain⟨b,hb,e1,e2,_⟩:=zOj pr e
  have q:=entry_at he i
  rw[hb]at q
  exact⟨_,b.2.1,q,rfl,e2⟩
end
noncomputable def Itk(d:Addr)(o:Obj)(kvs:List (Key×V)):It:=
 ⟨fun i H=>H d=some (.frz o (.dK kvs))/\i < kvs.length,fun i H x H'=>H'=H/\∃k v,kvs[i]? =some (k,v)/\x=kV k,fun i H=>H d=some (.frz o (.dK kvs))/\kvs.length<=i⟩
noncomputable def yAx(d:Addr)(o:Obj)(kvs:List (List Key×V)):It:=
 ⟨fun i H=>H d=some (.frz o (.dT kvs))/\i < kvs.length,fun i H x H'=>H'=H/\∃(k:List Key) (v:V) (q:Addr),kvs[i]? =some (k,v)/\x= .ref q/\H q=some (.tup (k.map kV)),fun i H=>H d=some (.frz o (.dT kvs))/\kvs.length<=i⟩
theorem zJs{o:Obj}{es es':Array DictEntry}{ep ep':Nat}(h:o.data= .dict es ep)(h':o.data= .dict es' ep'):es'=es/\ep'=ep:=by
 rw[h]at h'
 cases h'
 exact⟨rfl,rfl⟩
section
variable {P:Program} {w:World} {K:PySem.W.Frag} {tg:Expr} {d:Addr} {o:Obj} {es:Array DictEntry} {ep:Nat}
theorem zPy{kvs:List (Key×V)}(it:Addr)(hod:o.data= .dict es ep):zQ8 P w K tg (Itk d o kvs) [it] it (fun i h=>h.IsKeyIter it d i kvs.length ep) where
 mem:=by simp
 obj:=fun i h st b hb=>by
  have e:b=it:=by simpa using hb
  subst e
  obtain⟨oi,e,c,dd⟩:=st
  exact⟨oi,e,fun v z=>by rw[dd]at z;cases z⟩
 keep:=fun i h h' st k=>st.at fun oi e=>k it (by simp) oi e
 item:=by
  intro X hP hw hK hc i pins s σ H E I hf st hg
  subst hP hw hK
  obtain⟨hd,hi⟩:=hg
  obtain⟨f0,f1,f2,f3,f4,f5⟩:=hf it (by simp)
  obtain⟨hs,hgd,hx,es',ep',vs,hdt,hsz,kv,hm⟩:=I.frzK hd
  obtain⟨rfl,rfl⟩:=zJs hod hdt
  obtain⟨⟨k,v⟩,hkv⟩:∃p,kvs[i]? =some p:=⟨kvs[i],List.getElem?_eq_getElem hi⟩
  obtain⟨u,hu,ru⟩:=zV2 kv hkv
  have hl:kvs.length=vs.length:=Paired.length kv
  rw[hl]at st
  refine wpAny_pyNext_dict_item st hm hu fun key h' hkey st' sb=>?_
  have I1:Inv X pins σ H {s with heap:=h'}:=I.turned (t':=s.toks) (fun b ob hb e=>(sb.2 b hb).trans e) f0 f1 f3 f4 f5
  obtain⟨oi,e,c,dd⟩:=id st'
  refine⟨key,rfl,zPf (s:={s with heap:=h'}) e c dd (by decide) ⟨kV k,H,I1,zRy (show zKu k key=true from hkey),⟨rfl,k,v,hkv,rfl⟩,?_,fun b hb=>(hf b hb).1⟩⟩
  show h'.IsKeyIter it d (i+1) kvs.length _
  rw[hl]
  exact st'
 done:=by
  intro X hP hw hK hc i pins s σ H E I hf st hg
  subst hP hw hK
  obtain⟨hd,hi⟩:=hg
  obtain⟨f0,f1,f2,f3,f4,f5⟩:=hf it (by simp)
  obtain⟨hs,hgd,hx,es',ep',vs,hdt,hsz,kv,hm⟩:=I.frzK hd
  obtain⟨rfl,rfl⟩:=zJs hod hdt
  exact zGu (I.ok.hd hc) st hgd hdt hsz hi fun h' eb=>⟨rfl,I.turned (t':=s.toks) (fun b ob hb e=>eb b ob hb e) f0 f1 f3 f4 f5⟩
 self:=fun A i s Q E st h=>wpAny_pyIter_keyiter st h
theorem zOk{kvs:List (List Key×V)}(it:Addr)(hod:o.data= .dict es ep):zQ8 P w K tg (yAx d o kvs) [it] it (fun i h=>h.IsKeyIter it d i kvs.length ep) where
 mem:=by simp
 obj:=fun i h st b hb=>by
  have e:b=it:=by simpa using hb
  subst e
  obtain⟨oi,e,c,dd⟩:=st
  exact⟨oi,e,fun v z=>by rw[dd]at z;cases z⟩
 keep:=fun i h h' st k=>st.at fun oi e=>k it (by simp) oi e
 item:=by
  intro X hP hw hK hc i pins s σ H E I hf st hg
  subst hP hw hK
  obtain⟨hd,hi⟩:=hg
  obtain⟨f0,f1,f2,f3,f4,f5⟩:=hf it (by simp)
  obtain⟨hs,hgd,hx,es',ep',hdt,hsz,ent⟩:=I.frzT hd
  obtain⟨rfl,rfl⟩:=zJs hod hdt
  obtain⟨⟨k,v⟩,hkv⟩:∃p,kvs[i]? =some p:=⟨kvs[i],List.getElem?_eq_getElem hi⟩
  obtain⟨en,q,hen,hkey,hq⟩:=ent i k v hkv
  refine zJr st hgd hdt hsz hen fun h' st' sb=>?_
  have I1:Inv X pins σ H {s with heap:=h'}:=I.turned (t':=s.toks) (fun b ob hb e=>(sb.2 b hb).trans e) f0 f1 f3 f4 f5
  obtain⟨oi,e,c,dd⟩:=id st'
  exact⟨en.key,rfl,zPf (s:={s with heap:=h'}) e c dd (by decide) ⟨.ref q,H,I1,hkey,⟨rfl,k,v,q,hkv,rfl,hq⟩,st',fun b hb=>(hf b hb).1⟩⟩
 done:=by
  intro X hP hw hK hc i pins s σ H E I hf st hg
  subst hP hw hK
  obtain⟨hd,hi⟩:=hg
  obtain⟨f0,f1,f2,f3,f4,f5⟩:=hf it (by simp)
  obtain⟨hs,hgd,hx,es',ep',hdt,hsz,ent⟩:=I.frzT hd
  obtain⟨rfl,rfl⟩:=zJs hod hdt
  exact zGu (I.ok.hd hc) st hgd hdt hsz hi fun h' eb=>⟨rfl,I.turned (t':=s.toks) (fun b ob hb e=>eb b ob hb e) f0 f1 f3 f4 f5⟩
 self:=fun A i s Q E st h=>by
  refine wpAny_pyIter_slot st.typeIs F.slot_dict_keyiterator_iter (wpAny_call_entry F.slot_dict_keyiterator_iter st.typeIs F.entry_dict_keyiterator_iter ?_ (F.args_dict_keyiterator_iter_1 _))
  show wpAny _ _ (ret (.ref it)) _ _ s
  exact wpAny_pure ⟨_,rfl,"dict_keyiterator",_,st.typeIs,F.slot_dict_keyiterator_next.lookup,h⟩
end
noncomputable def zYw(td:TE):TI:=fun σ H R=>td σ H fun x H1=>∃d o,x= .ref d/\((∃kvs,H1 d=some (.frz o (.dK kvs))/\R (Itk d o kvs) H1)\/∃kvs,H1 d=some (.frz o (.dT kvs))/\R (yAx d o kvs) H1)
section
variable {X:Cx} {tg e:Expr} {td:TE} {apos cpos:Pos}
theorem zUd(he:PE X e td):PI X tg e (zYw td):=by
 intro pins s σ H R I h
 refine thn (he pins s σ H _ I h) fun u s1 ⟨x,H1,I1,rx,d,o,ex,q⟩=>?_
 subst ex
 obtain rfl:u=Value.ref d:=rx
 rcases q with⟨kvs,hd,q⟩ | ⟨kvs,hd,q⟩
 ·obtain⟨hs,hgd,hx,es,ep,vs,hdt,hsz,kv,hm⟩:=I1.frzK hd
  refine zLc hs hgd hx hdt (zS7 (tk:=s1.toks) I1 _ (zPy _ hdt) ⟨_,Heap.get?_push_size _ rfl,rfl,?_⟩ q)
  rw[hsz] <;> rfl
 ·obtain⟨hs,hgd,hx,es,ep,hdt,hsz,ent⟩:=I1.frzT hd
  refine zLc hs hgd hx hdt (zS7 (tk:=s1.toks) I1 _ (zOk _ hdt) ⟨_,Heap.get?_push_size _ rfl,rfl,?_⟩ q)
  rw[hsz] <;> rfl
end
noncomputable def Ite(K:PySem.W.Frag)(a:Addr):It:=
 ⟨fun i H=>∃(xs:List V) (x:V),SqL K H a xs/\xs[i]? =some x,fun i H v H'=>∃T x,v= .ref T/\H T=none/\H'=upd H T (.tup [.int (i:Nat),x])/\∀xs,SqL K H a xs->xs[i]? =some x,fun i H=>∃xs:List V,SqL K H a xs/\xs.length<=i⟩
theorem zPz{P:Program}{w:World}{K:PySem.W.Frag}{elts:List Expr}{kk:Nat}{tpos:Pos}(a e it:Addr):
  zQ8 P w K (.Tuple elts kk tpos) (Ite K a) [e,it] e (fun i h=>(∃old,IsEnum h e it ((i:Nat):Int) old)/\h.IsListIter it a i/\e≠it) where
 mem:=by simp
 obj:=fun i h st b hb=>by
  obtain⟨⟨old,he⟩,⟨o,ho,hc,hd⟩,_⟩:=st
  have e':b=e\/b=it:=by simpa using hb
  rcases e' with z | z
  ·rw[z];exact⟨_,he,fun v q=>nomatch q⟩
  ·rw[z];exact⟨o,ho,fun v q=>by rw[hd]at q;cases q⟩
 keep:=fun i h h' st k=>let⟨⟨old,he⟩,hi,hne⟩:=st;⟨⟨old,k e (by simp) _ he⟩,hi.at fun o q=>k it (by simp) o q,hne⟩
 item:=by
  intro X hP hw hK hc i pins s σ H E I hf st hg
  subst hP hw hK
  obtain⟨⟨old,he⟩,hit,hne⟩:=st
  obtain⟨xs,x,hq,hx⟩:=hg
  obtain⟨its,rv,p,hz⟩:=I.list hq
  obtain⟨u,hu,ru⟩:=rv.get hx
  have hel:e < s.heap.objs.size:=Heap.lt_size he
  have hil:it < s.heap.objs.size:=by obtain⟨_,q,_⟩:=hit;exact Heap.lt_size q
  refine wpAny_pyNext_enum_item he hit p.isList (x:=u) (by simpa using hu) hne fun h' ho hit' hT hsz hk=>?_
  refine⟨_,rfl,wpAny_letOwnedTupleGo_enum (s:={s with heap:=h',toks:=s.toks+1}) ho fun h'' he' sb=>?_⟩
  have hT2:h''.get? s.heap.objs.size=some {cls:= .type "tuple",data:= .seq #[.int i s.toks,u]}:=(sb.2 _ (Nat.ne_of_gt hel)).trans hT
  have new:ObjOk X.prog X.w (upd H s.heap.objs.size (.tup [.int (i:Nat),x])) h'' s.heap.objs.size (.tup [.int (i:Nat),x]):=
   ⟨by show 2<=sizeLine;decide,[.int i s.toks,u],.cons ⟨_,rfl⟩ (.cons ru .nil),⟨_,hT2,rfl,_,rfl⟩⟩
  have I1:Inv X pins σ (upd H s.heap.objs.size (.tup [.int (i:Nat),x])) {s with heap:=h'',toks:=s.toks+1}:=
   I.turnedNew (ch:=[e,it]) (fun b ob hb q=>(sb.2 b (fun z=>hb (by simp[z]))).trans (hk b ob (fun z=>hb (by simp[z])) (fun z=>hb (by simp[z])) q)) hf (Nat.le_refl _) new
  refine⟨.ref s.heap.objs.size,_,I1,rfl,⟨_,x,rfl,I.hok.fresh (Nat.le_refl _),rfl,fun ys hy=>by rw[I.list_inj hy hq];exact hx⟩,⟨⟨u,?_⟩,hit'.at fun o q=>(sb.2 it (Ne.symm hne)).trans q,hne⟩,fun b hb=>?_⟩
  ·have e1:((i+1:Nat):Int)=(i:Int) +1:=by omega
   rw[e1];exact he'
  ·have hb':b < s.heap.objs.size:=by
    have e':b=e\/b=it:=by simpa using hb
    rcases e' with z | z
    ·rw[z];exact hel
    ·rw[z];exact hil
   rw[zAj (Nat.ne_of_lt hb')]
   exact(hf b hb).1
 done:=by
  intro X hP hw hK hc i pins s σ H E I hf st hg
  subst hP hw hK
  obtain⟨⟨old,he⟩,hit,hne⟩:=st
  obtain⟨xs,hq,hx⟩:=hg
  obtain⟨its,rv,p,hz⟩:=I.list hq
  obtain⟨f0,f1,f2,f3,f4,f5⟩:=hf it (by simp)
  have hl:=rv.length
  exact wpAny_pyNext_enum_end (I.ok.hd hc) he hit p.isList (by simp;omega) fun h' eb=>⟨rfl,I.turned (t':=s.toks) (fun b o hb q=>eb b o hb q) f0 f1 f3 f4 f5⟩
 self:=fun A i s Q E st h=>let⟨⟨_,he⟩,_⟩:=st;wpAny_pyIter_enum he h
noncomputable def zYx(K:PySem.W.Frag)(ta:TA):TI:=fun σ H R=>ta σ H fun vs H1=>∃a xs,vs= [.ref a]/\SqL K H1 a xs/\R (Ite K a) H1
theorem zUe{X:Cx}{e:Expr}{ta:TA}{p pos tpos:Pos}{elts:List Expr}{kk:Nat}(hg:Gl X "enumerate")(hm:X.mg "enumerate" =none)(ha:PA X [e] ta)(hs:starEach [e] X.env= [(false,eval e X.env)]:=by rfl):
  PI X (.Tuple elts kk tpos) (.Call (.Name "enumerate" p) [e] [] pos) (zYx X.K ta):=by
 intro pins s σ H R I h
 refine Call_ (zHo I hg hm boot_enumerate (PyProof.Rows.callWith_type1 (thn (ha pos pins s σ H _ I h) fun us s1 ⟨vs,H1,I1,r1,q1⟩=>?_) hs rfl))
 obtain⟨a,xs,ex,hq,q⟩:=q1
 subst ex
 cases r1 with
 | cons r rr=>
  cases rr
  cases r
  obtain⟨its,rv,p',hz⟩:=I1.list hq
  refine call_enumerate_list p'.isList fun h' he hit hsz hk=>wpAny_pyIter_enum he ?_
  have I2:Inv X pins σ H1 {s1 with heap:=h'}:=I1.kept (t':=s1.toks) hk
  refine⟨s1.heap.objs.size+1,[s1.heap.objs.size+1,s1.heap.objs.size],_,_,H1,rfl,I2,zPz a (s1.heap.objs.size+1) s1.heap.objs.size,⟨⟨.none,he⟩,hit,Nat.succ_ne_self _⟩,fun b hb=>?_,q⟩
  have e':b=s1.heap.objs.size+1\/b=s1.heap.objs.size:=by simpa using hb
  have hle:s1.heap.objs.size<=b:=by
   rcases e' with z | z
   ·rw[z];exact Nat.le_add_right _ _
   ·rw[z];exact Nat.le_refl _
  exact I1.fpOk hle (I1.hok.fresh hle)
theorem zLd:bootBuiltins "zip" =some (.type "zip"):=by decide +kernel
noncomputable def Itz(K:PySem.W.Frag)(a b:Addr):It:=
 ⟨fun i H=>∃(xs ys:List V) (x y:V),SqL K H a xs/\SqL K H b ys/\xs[i]? =some x/\ys[i]? =some y,
  fun i H v H'=>∃T x y,v= .ref T/\H T=none/\H'=upd H T (.tup [x,y])/\(∀xs,SqL K H a xs->xs[i]? =some x)/\∀ys,SqL K H b ys->ys[i]? =some y,
  fun i H=>∃xs ys:List V,SqL K H a xs/\SqL K H b ys/\(xs.length<=i\/ys.length<=i)⟩
theorem zRz{P:Program}{w:World}{K:PySem.W.Frag}{elts:List Expr}{kk:Nat}{tpos:Pos}{a b z TI TO i1 i2:Addr}(D:ZipApart z TI TO i1 i2 a b):
  zQ8 P w K (.Tuple elts kk tpos) (Itz K a b) [z,TI,TO,i1,i2] z (fun i h=>IsZip h z TI TO .none/\IsPair h TI (.ref i1) (.ref i2)/\(∃x y,IsPair h TO x y)/\h.IsListIter i1 a i/\h.IsListIter i2 b i) where
 mem:=by simp
 obj:=fun i h st c hc=>by
  obtain⟨hz,hTI,⟨x,y,hTO⟩,⟨o1,e1,_,d1⟩,⟨o2,e2,_,d2⟩⟩:=st
  have e':c=z\/c=TI\/c=TO\/c=i1\/c=i2:=by simpa using hc
  rcases e' with q | q | q | q | q
  ·rw[q];exact⟨_,hz,fun v q=>nomatch q⟩
  ·rw[q];exact⟨_,hTI,fun v q=>nomatch q⟩
  ·rw[q];exact⟨_,hTO,fun v q=>nomatch q⟩
  ·rw[q];exact⟨o1,e1,fun v q=>by rw[d1]at q;cases q⟩
  ·rw[q];exact⟨o2,e2,fun v q=>by rw[d2]at q;cases q⟩
 keep:=fun i h h' st k=>by
  obtain⟨hz,hTI,⟨x,y,hTO⟩,h1,h2⟩:=st
  exact⟨k z (by simp) _ hz,k TI (by simp) _ hTI,⟨x,y,k TO (by simp) _ hTO⟩,h1.at fun o q=>k i1 (by simp) o q,h2.at fun o q=>k i2 (by simp) o q⟩
 item:=by
  intro X hP hw hK hc i pins s σ H E I hf st hg
  subst hP hw hK
  obtain⟨hz,hTI,⟨x0,y0,hTO⟩,h1,h2⟩:=st
  obtain⟨xs,ys,x,y,hqx,hqy,hx,hy⟩:=hg
  obtain⟨its,rv,p,_⟩:=I.list hqx
  obtain⟨its2,rv2,p2,_⟩:=I.list hqy
  obtain⟨u,hu,ru⟩:=rv.get hx
  obtain⟨u2,hu2,ru2⟩:=rv2.get hy
  have hzl:z < s.heap.objs.size:=Heap.lt_size hz
  refine wpAny_pyNext_zip_item D hz hTI hTO h1 h2 p.isList p2.isList (x:=u) (y:=u2) (by simpa using hu) (by simpa using hu2) fun h' z' TO' h1' h2' hT hsz hk=>?_
  refine⟨_,rfl,wpAny_letOwnedTupleGo_zip (s:={s with heap:=h'}) z' fun h'' z'' sb=>?_⟩
  have hT2:h''.get? s.heap.objs.size=some {cls:= .type "tuple",data:= .seq #[u,u2]}:=(sb.2 _ (Nat.ne_of_gt hzl)).trans hT
  have new:ObjOk X.prog X.w (upd H s.heap.objs.size (.tup [x,y])) h'' s.heap.objs.size (.tup [x,y]):=
   ⟨by show 2<=sizeLine;decide,[u,u2],.cons ru (.cons ru2 .nil),⟨_,hT2,rfl,_,rfl⟩⟩
  have I1:Inv X pins σ (upd H s.heap.objs.size (.tup [x,y])) {s with heap:=h''}:=
   I.turnedNew (t':=s.toks) (ch:=[z,TI,TO,i1,i2]) (fun c o hb q=>(sb.2 c (fun q'=>hb (by simp[q']))).trans (hk c o (fun q'=>hb (by simp[q'])) (fun q'=>hb (by simp[q'])) (fun q'=>hb (by simp[q'])) (fun q'=>hb (by simp[q'])) q)) hf (Nat.le_refl _) new
  refine⟨.ref s.heap.objs.size,_,I1,rfl,⟨_,x,y,rfl,I.hok.fresh (Nat.le_refl _),rfl,fun l hl=>by rw[I.list_inj hl hqx];exact hx,fun l hl=>by rw[I.list_inj hl hqy];exact hy⟩,⟨z'',?_,⟨u,u2,?_⟩,?_,?_⟩,fun c hcm=>?_⟩
  ·exact(sb.2 _ D.TIz).trans (hk _ _ D.TIz D.TITO D.TIi1 D.TIi2 hTI)
  ·exact(sb.2 _ D.TOz).trans TO'
  ·exact h1'.at fun o q=>(sb.2 _ D.i1z).trans q
  ·exact h2'.at fun o q=>(sb.2 _ D.i2z).trans q
  ·have hlt:c < s.heap.objs.size:=by
    have e':c=z\/c=TI\/c=TO\/c=i1\/c=i2:=by simpa using hcm
    rcases e' with q | q | q | q | q
    ·rw[q];exact hzl
    ·rw[q];exact Heap.lt_size hTI
    ·rw[q];exact Heap.lt_size hTO
    ·rw[q];obtain⟨_,e1,_⟩:=h1;exact Heap.lt_size e1
    ·rw[q];obtain⟨_,e2,_⟩:=h2;exact Heap.lt_size e2
   rw[zAj (Nat.ne_of_lt hlt)]
   exact(hf c hcm).1
 done:=by
  intro X hP hw hK hc i pins s σ H E I hf st hg
  subst hP hw hK
  obtain⟨hz,hTI,⟨x0,y0,hTO⟩,h1,h2⟩:=st
  obtain⟨xs,ys,hqx,hqy,hend⟩:=hg
  obtain⟨its,rv,p,_⟩:=I.list hqx
  obtain⟨its2,rv2,p2,_⟩:=I.list hqy
  have l1:=rv.length
  have l2:=rv2.length
  have he:its.toArray[i]? =none\/its2.toArray[i]? =none:=by
   rcases hend with q | q
   ·exact .inl (by simp;omega)
   ·exact .inr (by simp;omega)
  exact wpAny_pyNext_zip_end (I.ok.hd hc) D hz hTI hTO h1 h2 p.isList p2.isList he fun h' hk=>⟨rfl,I.turnedL (t':=s.toks) (ch:=[z,TI,TO,i1,i2]) (fun c o hb q=>
   hk c o (fun q'=>hb (by simp[q'])) (fun q'=>hb (by simp[q'])) (fun q'=>hb (by simp[q'])) (fun q'=>hb (by simp[q'])) q) hf⟩
 self:=fun A i s Q E st h=>wpAny_pyIter_zip st.1 h
noncomputable def yCl(K:PySem.W.Frag)(ta:TA):TI:=fun σ H R=>ta σ H fun vs H1=>∃a b xs ys,vs= [.ref a,.ref b]/\SqL K H1 a xs/\SqL K H1 b ys/\R (Itz K a b) H1
theorem zS8{X:Cx}{e e2:Expr}{ta:TA}{p pos tpos:Pos}{elts:List Expr}{kk:Nat}(hg:Gl X "zip")(hm:X.mg "zip" =none)(ha:PA X [e,e2] ta)
  (hs:starEach [e,e2] X.env=(false,eval e X.env)::starEach [e2] X.env:=by rfl) (hpl:(backTo pos (starEach [e2] X.env)).any (·.1)=false:=by rfl):
  PI X (.Tuple elts kk tpos) (.Call (.Name "zip" p) [e,e2] [] pos) (yCl X.K ta):=by
 intro pins s σ H R I h
 refine Call_ (zHo I hg hm zLd (PyProof.Rows.callWith_type1 (thn (ha pos pins s σ H _ I h) fun us s1 ⟨vs,H1,I1,r1,q1⟩=>?_) hs hpl))
 obtain⟨a,b,xs,ys,ex,hqx,hqy,q⟩:=q1
 subst ex
 cases r1 with
 | cons r rr=>
  cases rr with
  | cons r' rr=>
   cases rr
   cases r
   cases r'
   obtain⟨its,rv,p1,_⟩:=I1.list hqx
   obtain⟨its2,rv2,p2,_⟩:=I1.list hqy
   have la:a < s1.heap.objs.size:=p1.lt
   have lb:b < s1.heap.objs.size:=p2.lt
   refine call_zip_2 p1.isList p2.isList fun h' hz hTI hTO h1 h2 hsz hk=>wpAny_pyIter_zip hz ?_
   have I2:Inv X pins σ H1 {s1 with heap:=h'}:=I1.kept (t':=s1.toks) hk
   refine⟨s1.heap.objs.size+4,[s1.heap.objs.size+4,s1.heap.objs.size+2,s1.heap.objs.size+3,s1.heap.objs.size,s1.heap.objs.size+1],_,_,H1,rfl,I2,zRz (PySem.W.ktu_apart s1.heap.objs.size a b la lb),⟨hz,hTI,⟨_,_,hTO⟩,h1,h2⟩,fun c hcm=>?_,q⟩
   have e':c=s1.heap.objs.size+4\/c=s1.heap.objs.size+2\/c=s1.heap.objs.size+3\/c=s1.heap.objs.size\/c=s1.heap.objs.size+1:=by simpa using hcm
   have hle:s1.heap.objs.size<=c:=by
    rcases e' with z | z | z | z | z
    ·rw[z];exact Nat.le_add_right _ _
    ·rw[z];exact Nat.le_add_right _ _
    ·rw[z];exact Nat.le_add_right _ _
    ·rw[z];exact Nat.le_refl _
    ·rw[z];exact Nat.le_add_right _ _
   exact I1.fpOk hle (I1.hok.fresh hle)
end L2
section
namespace Bits
open PySem PyProof.Rows
end Bits
end
section
namespace TL
open PySem PySem.Builtin PySem.Builtin.Str PySem.StrLaws
end TL
end
namespace L2
open PySem PySem.Spec PyProof.Rows
section
variable {X:Cx} {pins:List (Addr×Obj)} {σ:St} {H:Hp} {s:Shared} {Q:VK}
end
section
variable {X:Cx}
end
section
variable {X:Cx} {o e:Expr} {to te:TE}
end
end L2
namespace L2
open PySem PySem.Spec PyProof.Rows
section
variable {X:Cx}
end
end L2
namespace Att
open PySem PySem.W PySem.Calls PyProof.Rows
section
variable {prog:Program} {w:World} {A:Around} {E:Value->Shared->Prop} {s:Shared} {K:Frag}
end
end Att
namespace L2
open PySem PySem.Spec PyProof.Rows
end L2
namespace L2
open PySem PySem.Spec PyProof.Rows
end L2
namespace L2
open PySem PySem.Spec PyProof.Rows
noncomputable def zBk(s:Stmt)(j:Nat):Stmt:=match s with
 | .ClassDef _ _ _ body _ _ _ _ _ _ _=>body.getD j (.Pass ⟨0,0,0,0⟩)
 | _=> .Pass ⟨0,0,0,0⟩
noncomputable def zDl(s:Stmt):Arguments:=match s with
 | .FunctionDef _ a _ _ _ _ _ _ _ _=>a
 | _=>{posonlyargs:=[],args:=[],vararg:=none,kwonlyargs:=[],kw_defaults:=[],kwarg:=none,defaults:=[]}
noncomputable def zCd(s:Stmt):List Stmt:=match s with
 | .FunctionDef _ _ b _ _ _ _ _ _ _=>b
 | _=>[]
noncomputable def zAc(s:Stmt):Scope:=match s with
 | .FunctionDef _ _ _ _ _ _ sc _ _ _=>sc
 | _=>{kind:= .function,names:=[],isGenerator:=false,isCoroutine:=false}
noncomputable abbrev E0:XK:=fun _ _ _=>False
structure Fun(K:PySem.W.Frag)(x qual:Str)(st:Stmt)(f:Addr)(fd:FuncData):Prop where
 ex:∃(oc:Value) (od:Option Addr) (kV doc pm:Value) (an:Option Addr) (cdv ct:Value) (osl:Array (Option Value)),
  fd=PySem.W.fnOf x qual (zDl st) (zCd st) (zAc st) .none kV doc pm an cdv ct/\K.lookup f=some ⟨oc,od,.func fd,osl⟩/\PySem.W.codeIn K cdv qual=true
 kp:PySem.W.keepIn K (.ref f)=true
section
variable {P:Program} {w:World} {K:PySem.W.Frag} {mg:Str->Option Value} {base:Heap}
theorem Fun.binds{x qual:Str}{st:Stmt}{f:Addr}{fd:FuncData}{ps:List Str}(F:Fun K x qual st f fd)
  (h:∀(kV doc pm:Value) (an:Option Addr) (cdv ct:Value) (us:List Value),us.length=ps.length->bindArgs (PySem.W.fnOf x qual (zDl st) (zCd st) (zAc st) .none kV doc pm an cdv ct) ⟨us,[]⟩=pure (ps.zip us)):Binds K fd ps []:=by
 obtain⟨oc,od,kV,doc,pm,an,cdv,ct,osl,rfl,lk,hcd⟩:=F.ex
 exact .all (h kV doc pm an cdv ct)
theorem fun_mk{x qual:Str}{st:Stmt}{f:Addr}{oc:Value}{od an:Option Addr}{osl:Array (Option Value)}{kV doc pm cdv ct:Value}(l:K.lookup f=some ⟨oc,od,.func (PySem.W.fnOf x qual (zDl st) (zCd st) (zAc st) .none kV doc pm an cdv ct),osl⟩)
  (c:PySem.W.codeIn K cdv qual=true) (k:PySem.W.keepIn K (.ref f)=true):Fun K x qual st f (PySem.W.fnOf x qual (zDl st) (zCd st) (zAc st) .none kV doc pm an cdv ct):=⟨⟨oc,od,kV,doc,pm,an,cdv,ct,osl,rfl,l,c⟩,k⟩
end
theorem zMr{A:Around}{k:Nat}(hr:Room k A):A.units+1 < cLine:=Nat.lt_of_le_of_lt (Nat.add_le_add_left (by decide:1<=64) _) hr.units
section
variable {X:Cx}
theorem pv(i:Nat){x:Str}{pos:Pos}(hN:X.N[i]? =some x:=by rfl)(hv:Vis X.env.scope x:=by first | exact Or.inl rfl | exact Or.inr (Or.inl rfl) | exact Or.inr (Or.inr rfl))(hd:(x == ("__debug__":Str))=false:=by decide)
  (hcd:(x == ("__classdict__":Str))=false:=by decide):PE X (.Name x pos) (zFq i):=zSz hN hv hd hcd
end
theorem zG3{A B:Prop}(h:B):if false=true then A else B:=by
 rw[if_neg Bool.false_ne_true]
 exact h
theorem zE6{A B:Prop}(h:A):if true=true then A else B:=by
 rw[if_pos rfl]
 exact h
theorem zD2{c A B:Prop}[Decidable c](h1:c->A)(h2:¬c->B):if c then A else B:=by
 by_cases h:c
 ·rw[if_pos h]
  exact h1 h
 ·rw[if_neg h]
  exact h2 h
noncomputable def Same(H H':Hp):Prop:=∀b o,H b=some o->H' b=some o
theorem Same.refl(H:Hp):Same H H:=fun _ _ h=>h
theorem Same.trans{H H1 H2:Hp}(a:Same H H1)(b:Same H1 H2):Same H H2:=fun c o h=>b c o (a c o h)
theorem Same.free{H H':Hp}(e:Same H H'){l:Addr}(h:H' l=Option.none):H l=Option.none:=by
 cases q:H l with
 | none=>rfl
 | some o=>
  rw[e l o q]at h
  cases h
theorem Same.seq{K:PySem.W.Frag}{H H':Hp}{a:Addr}{xs:List V}(e:Same H H')(h:SqL K H a xs):SqL K H' a xs:=by
 rcases h with(h | ⟨o,h⟩) | h
 ·exact .inl (.inl (e _ _ h))
 ·exact .inl (.inr ⟨o,e _ _ h⟩)
 ·exact .inr h
section
variable {κ:Type} [DecidableEq κ]
end
end L2
section
set_option maxHeartbeats 2000000
namespace L2
open PySem PySem.Spec PyProof.Rows
open PySem.W (WData Codec OpenSpec Well WellAll ReadsW ReadsAllW)
mutual
inductive Dw(K:PySem.W.Frag)(H:Hp):V->WData->Prop
 | non:Dw K H .non .none
 | bl (b:Bool):Dw K H (.bl b) (.bool b)
 | int (i:Int):Dw K H (.int i) (.int i)
 | str (x:Str):Dw K H (.str x) (.str x)
 | byt (b:Array UInt8):Dw K H (.byt b) (.bytes b.toList)
 | lst {a:Addr} {xs:List V} {ds:List WData}:SqL K H a xs->zG4 K H xs ds->Dw K H (.ref a) (.list ds)
 | tup {a:Addr} {xs:List V} {ds:List WData}:SqT K H a xs->zG4 K H xs ds->Dw K H (.ref a) (.tuple ds)
inductive zG4(K:PySem.W.Frag)(H:Hp):List V->List WData->Prop
 | nil:zG4 K H [] []
 | cons {v:V} {vs:List V} {d:WData} {ds:List WData}:Dw K H v d->zG4 K H vs ds->zG4 K H (v::vs) (d::ds)
end
theorem ints_dw{K:PySem.W.Frag}{H:Hp}:∀(ns:List Int) (xs:List V),zG4 K H xs (ns.map WData.int)->xs=ns.map V.int
 | [],xs,h=>by
  cases h
  rfl
 | n::r,xs,h=>by
  cases h with
  | cons h1 h2=>
   cases h1
   rw[ints_dw r _ h2] <;> rfl
section
variable {P:Program} {w:World} {K:PySem.W.Frag} {H:Hp} {h:Heap} {R:PySem.W.WRecords} {cl:Str->Option Addr}
theorem zV3{a:Addr}{xs:List V}(hok:HOk P w H h)(KX:K.In h)(q:SqL K H a xs):∃(its:List Value) (o:Obj) (n:Nat),Vals xs its/\h.get? a=some o/\o.cls= .type "list"/\o.data= .seq its.toArray n:=by
 rcases q with q | ⟨o,its,n,e,hc,_,hd,_,hv⟩
 ·obtain⟨_,its,n,hv,e⟩:=(show ObjOk P w H h a (.lst xs)from q.ok hok)
  exact⟨its,_,n,hv,e,rfl,rfl⟩
 ·exact⟨its.toList,o,n,hv,KX _ _ e,hc,by simp[hd]⟩
theorem zV4{a:Addr}{xs:List V}(hok:HOk P w H h)(KX:K.In h)(q:SqT K H a xs):∃(its:List Value) (o:Obj) (n:Nat),Vals xs its/\h.get? a=some o/\o.cls= .type "tuple"/\o.data= .seq its.toArray n:=by
 rcases q with q | ⟨o,its,n,e,hc,hd,_,hv⟩
 ·obtain⟨_,its,hv,o,e,hc,n,hd⟩:=(show ObjOk P w H h a (.tup xs)from q.ok hok)
  exact⟨its,o,n,hv,e,hc,hd⟩
 ·exact⟨its.toList,o,n,hv,KX _ _ e,hc,by simp[hd]⟩
mutual
theorem Dw.reads(hok:HOk P w H h)(KX:K.In h):∀(d:WData) (v:V) (u:Value),Dw K H v d->RelV v u->∃as,ReadsW R cl h u d as
 | .none,_,_,x,r=>by
  cases x
  cases r
  exact⟨_,ReadsW.none⟩
 | .bool b,_,_,x,r=>by
  cases x
  cases r
  exact⟨_,ReadsW.bool b⟩
 | .int i,_,_,x,r=>by
  cases x
  obtain⟨t,rfl⟩:=r
  exact⟨_,ReadsW.int i t⟩
 | .str s,_,_,x,r=>by
  cases x
  obtain⟨t,rfl⟩:=r
  exact⟨_,ReadsW.str s t⟩
 | .bytes b,_,_,x,r=>by
  cases x
  obtain⟨t,rfl⟩:=r
  exact⟨_,ReadsW.bytes _ t⟩
 | .list ds,_,_,x,r=>by
  cases x with
  | lst hs ha=>
   cases r
   obtain⟨its,o,n,rv,ho,hc,hd⟩:=zV3 hok KX hs
   obtain⟨as,hr⟩:=Dw.readsAll hok KX ds _ its ha rv
   exact⟨_,ReadsW.list ho hc hd hr⟩
 | .tuple ds,_,_,x,r=>by
  cases x with
  | tup hs ha=>
   cases r
   obtain⟨its,o,n,rv,ho,hc,hd⟩:=zV4 hok KX hs
   obtain⟨as,hr⟩:=Dw.readsAll hok KX ds _ its ha rv
   exact⟨_,ReadsW.tuple ho hc hd hr⟩
 | .float _,_,_,x,_=>by cases x
 | .dict _,_,_,x,_=>by cases x
 | .bytearray _,_,_,x,_=>by cases x
 | .set _,_,_,x,_=>by cases x
 | .frozenset _,_,_,x,_=>by cases x
 | .obj _ _,_,_,x,_=>by cases x
theorem Dw.readsAll(hok:HOk P w H h)(KX:K.In h):∀(ds:List WData) (vs:List V) (us:List Value),zG4 K H vs ds->Vals vs us->∃as,ReadsAllW R cl h us ds as
 | [],_,_,x,r=>by
  cases x
  cases r
  exact⟨_,ReadsAllW.nil⟩
 | d::ds,_,_,x,r=>by
  cases x with
  | cons h1 h2=>
   cases r with
   | cons r1 r2=>
    obtain⟨as,q1⟩:=Dw.reads hok KX d _ _ h1 r1
    obtain⟨bs,q2⟩:=Dw.readsAll hok KX ds _ _ h2 r2
    exact⟨_,ReadsAllW.cons q1 q2⟩
end
end
mutual
noncomputable def plW:WData->Bool
 | .none=>true
 | .bool _=>true
 | .int _=>true
 | .str _=>true
 | .bytes _=>true
 | .list xs=>zO5 xs
 | .tuple xs=>zO5 xs
 | _=>false
noncomputable def zO5:List WData->Bool
 | []=>true
 | x::r=>plW x&&zO5 r
end
theorem zNe{α:Type}{f:α->WData}(h:∀a,plW (f a)=true):∀l:List α,zO5 (l.map f)=true
 | []=>rfl
 | x::r=>by
  show(plW (f x) &&zO5 (r.map f))=true
  rw[h x,zNe h r] <;> rfl
theorem zGv:∀(c:Codec) (a:c.denote),plW (c.enc a)=true
 | .unit,_=>rfl
 | .bool,_=>rfl
 | .int _ _,_=>rfl
 | .nat _ _,_=>rfl
 | .u8,_=>rfl
 | .bytes _ _,_=>rfl
 | .text _ _ _ _,_=>rfl
 | .list _ _ c,a=>zNe (fun x=>zGv c x) a
 | .pair c d,a=>by
  show(plW (c.enc a.1) && (plW (d.enc a.2) &&true))=true
  rw[zGv c a.1,zGv d a.2] <;> rfl
 | .triple c d e,a=>by
  show(plW (c.enc a.1) && (plW (d.enc a.2.1) && (plW (e.enc a.2.2) &&true)))=true
  rw[zGv c a.1,zGv d a.2.1,zGv e a.2.2] <;> rfl
 | .option c,none=>rfl
 | .option c,some x=>zGv c x
theorem zLe:∀(cs:List Codec) (a:Codec.denoteAll cs),zO5 (Codec.encAll cs a)=true
 | [],_=>rfl
 | c::cs,a=>by
  show(plW (c.enc a.1) &&zO5 (Codec.encAll cs a.2))=true
  rw[zGv c a.1,zLe cs a.2] <;> rfl
theorem zGf:∀{xs:List WData} {d:WData},d∈xs->d.weight<=WData.weightAll xs
 | [],d,h=>absurd h (by simp)
 | x::r,d,h=>by
  show d.weight<=x.weight+1+WData.weightAll r
  rcases List.mem_cons.mp h with e | m
  ·rw[e]
   omega
  ·have z:=zGf m
   omega
noncomputable def toV:Value->V
 | .none=> .non
 | .bool b=> .bl b
 | .int i _=> .int i
 | .str x _=> .str x
 | .bytes b _=> .byt b
 | .ref a=> .ref a
 | _=> .non
noncomputable def OkU(A:List Addr):Value->Prop
 | .none=>True
 | .bool _=>True
 | .int _ _=>True
 | .str _ _=>True
 | .bytes _ _=>True
 | .ref a=>a∈A
 | _=>False
theorem OkU.mono{A B:List Addr}(h:∀a∈A,a∈B):∀{u:Value},OkU A u->OkU B u:=fun {u} x=>by
 cases u with
 | ref a=>exact h a x
 | none=>trivial
 | bool b=>trivial
 | int i t=>trivial
 | str s t=>trivial
 | bytes b t=>trivial
 | _=>exact False.elim x
theorem zR0{A:List Addr}{u:Value}(x:OkU A u):RelV (toV u) u:=by
 cases u with
 | ref a=>rfl
 | none=>rfl
 | bool b=>rfl
 | int i t=>exact⟨t,rfl⟩
 | str s t=>exact⟨t,rfl⟩
 | bytes b t=>exact⟨t,rfl⟩
 | _=>exact False.elim x
theorem zEr{A:List Addr}:∀{vs:List Value},(∀u∈vs,OkU A u)->Vals (vs.map toV) vs
 | [],_=> .nil
 | u::r,h=> .cons (zR0 (h u (List.mem_cons_self ..))) (zEr fun x hx=>h x (List.mem_cons_of_mem _ hx))
noncomputable def ArgOb(h:Heap)(A:List Addr)(a:Addr):Prop:=∃vs:List Value,vs.length<=sizeLine/\(∀u∈vs,OkU A u)/\
 (h.get? a=some {cls:= .type "list",data:= .seq vs.toArray}\/h.get? a=some {cls:= .type "tuple",data:= .seq vs.toArray})
theorem ArgOb.mono{h:Heap}{A B:List Addr}{a:Addr}(k:∀a∈A,a∈B)(x:ArgOb h A a):ArgOb h B a:=by
 obtain⟨vs,h1,h2,h3⟩:=x
 exact⟨vs,h1,fun u hu=>(h2 u hu).mono k,h3⟩
theorem zD3{P:Params}{h:Heap}:∀{vs:List Value} {ds:List WData},WellAll P h vs ds->vs.length=ds.length
 | _,_,.nil=>rfl
 | _,_,.cons _ b=>by
  show _+1= _+1
  rw[zD3 b]
theorem zLf{P:Params}{h:Heap}{v:Value}{ds:List WData}(x:Well P h v (.list ds)):∃(a:Addr) (vs:List Value),v= .ref a/\h.get? a=some {cls:= .type "list",data:= .seq vs.toArray}/\WellAll P h vs ds:=by
 cases x with
 | list ho hall=>exact⟨_,_,rfl,ho,hall⟩
theorem zI3{P:Params}{h:Heap}{v:Value}{ds:List WData}(x:Well P h v (.tuple ds)):∃(a:Addr) (vs:List Value),v= .ref a/\h.get? a=some {cls:= .type "tuple",data:= .seq vs.toArray}/\WellAll P h vs ds:=by
 cases x with
 | tuple ho hall=>exact⟨_,_,rfl,ho,hall⟩
theorem zLg{P:Params}{h:Heap}{us:List Value}{d:WData}{ds:List WData}(x:WellAll P h us (d::ds)):∃(v:Value) (vs:List Value),us=v::vs/\Well P h v d/\WellAll P h vs ds:=by
 cases x with
 | cons a b=>exact⟨_,_,rfl,a,b⟩
theorem zP0{n:Nat}(h:n<=1048576):n<=sizeLine:=Nat.le_trans h (by decide)
section
variable {P:Params} {h:Heap}
mutual
theorem zR1:∀(d:WData) (v:Value),Well P h v d->plW d=true->d.weight<=1048576->∃A:List Addr,OkU A v/\∀a∈A,ArgOb h A a
 | .none,_,x,_,_=>by
  cases x
  exact⟨[],trivial,fun a m=>absurd m (by simp)⟩
 | .bool b,_,x,_,_=>by
  cases x
  exact⟨[],trivial,fun a m=>absurd m (by simp)⟩
 | .int i,_,x,_,_=>by
  cases x
  exact⟨[],trivial,fun a m=>absurd m (by simp)⟩
 | .str s,_,x,_,_=>by
  cases x
  exact⟨[],trivial,fun a m=>absurd m (by simp)⟩
 | .bytes b,_,x,_,_=>by
  cases x
  exact⟨[],trivial,fun a m=>absurd m (by simp)⟩
 | .list ds,_,x,p,z=>by
  obtain⟨a,vs,rfl,ho,hall⟩:=zLf x
  have z2:WData.weightAll ds<=1048576:=z
  obtain⟨A,h1,h2⟩:=zHa ds _ hall p fun d hd=>Nat.le_trans (zGf hd) z2
  have k:∀b∈A,b∈a::A:=fun b hb=>List.mem_cons_of_mem _ hb
  refine⟨a::A,List.mem_cons_self ..,fun b hb=>?_⟩
  rcases List.mem_cons.mp hb with e | m
  ·rw[e]
   exact⟨vs,zP0 (by rw[zD3 hall];exact Nat.le_trans (PySem.W.length_le_weightAllW ds) z2),fun u hu=>(h1 u hu).mono k,.inl ho⟩
  ·exact(h2 b m).mono k
 | .tuple ds,_,x,p,z=>by
  obtain⟨a,vs,rfl,ho,hall⟩:=zI3 x
  have z2:WData.weightAll ds<=1048576:=z
  obtain⟨A,h1,h2⟩:=zHa ds _ hall p fun d hd=>Nat.le_trans (zGf hd) z2
  have k:∀b∈A,b∈a::A:=fun b hb=>List.mem_cons_of_mem _ hb
  refine⟨a::A,List.mem_cons_self ..,fun b hb=>?_⟩
  rcases List.mem_cons.mp hb with e | m
  ·rw[e]
   exact⟨vs,zP0 (by rw[zD3 hall];exact Nat.le_trans (PySem.W.length_le_weightAllW ds) z2),fun u hu=>(h1 u hu).mono k,.inr ho⟩
  ·exact(h2 b m).mono k
 | .float _,_,_,p,_=>Bool.noConfusion (show false=true from p)
 | .dict _,_,_,p,_=>Bool.noConfusion (show false=true from p)
 | .bytearray _,_,_,p,_=>Bool.noConfusion (show false=true from p)
 | .set _,_,_,p,_=>Bool.noConfusion (show false=true from p)
 | .frozenset _,_,_,p,_=>Bool.noConfusion (show false=true from p)
 | .obj _ _,_,_,p,_=>Bool.noConfusion (show false=true from p)
theorem zHa:∀(ds:List WData) (vs:List Value),WellAll P h vs ds->zO5 ds=true->(∀d∈ds,d.weight<=1048576)->∃A:List Addr,(∀u∈vs,OkU A u)/\∀a∈A,ArgOb h A a
 | [],_,x,_,_=>by
  cases x
  exact⟨[],fun u m=>absurd m (by simp),fun a m=>absurd m (by simp)⟩
 | d::ds,_,x,p,z=>by
  obtain⟨v,vs,rfl,x1,x2⟩:=zLg x
  have q:plW d=true/\zO5 ds=true:=Bool.and_eq_true_iff.mp p
  obtain⟨A,a1,a2⟩:=zR1 d v x1 q.1 (z d (List.mem_cons_self ..))
  obtain⟨B,b1,b2⟩:=zHa ds vs x2 q.2 fun e he=>z e (List.mem_cons_of_mem _ he)
  have kA:∀b∈A,b∈A++B:=fun b hb=>List.mem_append.mpr (.inl hb)
  have kB:∀b∈B,b∈A++B:=fun b hb=>List.mem_append.mpr (.inr hb)
  refine⟨A++B,fun u hu=>?_,fun b hb=>?_⟩
  ·rcases List.mem_cons.mp hu with e | m
   ·rw[e]
    exact a1.mono kA
   ·exact(b1 u m).mono kB
  ·rcases List.mem_append.mp hb with m | m
   ·exact(a2 b m).mono kA
   ·exact(b2 b m).mono kB
end
end
noncomputable def zX5(o:Obj):Option HO:=match o.data with
 | .seq vs _=>if (o.cls == Value.type "list")=true then some (.frz o (.lst (vs.toList.map toV)))else some (.frz o (.tup (vs.toList.map toV)))
 | _=>none
noncomputable def zJt(K:PySem.W.Frag)(h:Heap)(A:List Addr):Hp:=fun b=>if b∈A then(if (K.lookup b).isNone=true then(h.get? b).bind zX5 else none)else none
noncomputable def zR2(H:Hp):Prop:=∀b,H b=none\/∃o u,H b=some (.frz o u)
theorem zNf(vs:List Value):zX5 {cls:= .type "list",data:= .seq vs.toArray} =some (.frz {cls:= .type "list",data:= .seq vs.toArray} (.lst (vs.map toV))):=by
 show(if (Value.type "list" == Value.type "list")=true then some (HO.frz {cls:= .type "list",data:= .seq vs.toArray} (.lst (vs.toArray.toList.map toV)))else some (HO.frz {cls:= .type "list",data:= .seq vs.toArray} (.tup (vs.toArray.toList.map toV))))= _
 rw[if_pos (beq_self_eq_true _)]
theorem zNg(vs:List Value):zX5 {cls:= .type "tuple",data:= .seq vs.toArray} =some (.frz {cls:= .type "tuple",data:= .seq vs.toArray} (.tup (vs.map toV))):=by
 show(if (Value.type "tuple" == Value.type "list")=true then some (HO.frz {cls:= .type "tuple",data:= .seq vs.toArray} (.lst (vs.toArray.toList.map toV)))else some (HO.frz {cls:= .type "tuple",data:= .seq vs.toArray} (.tup (vs.toArray.toList.map toV))))= _
 rw[if_neg (by decide)]
section
variable {P:Program} {w:World} {K:PySem.W.Frag} {h:Heap} {A:List Addr}
theorem zJu{b:Addr}{o:Obj}(hb:b∈A)(hk:K.lookup b=none)(e:h.get? b=some o):zJt K h A b=zX5 o:=by
 unfold zJt
 rw[if_pos hb,hk,if_pos (show(none:Option Obj).isNone=true from rfl),e] <;> rfl
theorem zUf{b:Addr}{u:HO}(q:zJt K h A b=some u):b∈A/\K.lookup b=none:=by
 unfold zJt at q
 by_cases hb:b∈A
 ·rw[if_pos hb]at q
  cases hk:K.lookup b with
  | none=>exact⟨hb,rfl⟩
  | some o=>
   rw[hk,if_neg (by simp)]at q
   cases q
 ·rw[if_neg hb]at q
  cases q
theorem zJv(ar:∀a∈A,ArgOb h A a){b:Addr}{u:HO}(q:zJt K h A b=some u):K.lookup b=none/\∃vs:List Value,vs.length<=sizeLine/\(∀u∈vs,OkU A u)/\
  ((h.get? b=some {cls:= .type "list",data:= .seq vs.toArray}/\u= .frz {cls:= .type "list",data:= .seq vs.toArray} (.lst (vs.map toV)))\/
   (h.get? b=some {cls:= .type "tuple",data:= .seq vs.toArray}/\u= .frz {cls:= .type "tuple",data:= .seq vs.toArray} (.tup (vs.map toV)))):=by
 obtain⟨hb,hk⟩:=zUf q
 obtain⟨vs,h1,h2,h3⟩:=ar b hb
 refine⟨hk,vs,h1,h2,?_⟩
 rcases h3 with e | e
 ·rw[zJu hb hk e,zNf]at q
  exact .inl ⟨e,(Option.some.inj q).symm⟩
 ·rw[zJu hb hk e,zNg]at q
  exact .inr ⟨e,(Option.some.inj q).symm⟩
theorem zP1(ar:∀a∈A,ArgOb h A a):zR2 (zJt K h A):=fun b=>by
 cases q:zJt K h A b with
 | none=>exact .inl rfl
 | some u=>
  obtain⟨_,vs,_,_,⟨_,e⟩ | ⟨_,e⟩⟩:=zJv ar q
  ·exact .inr ⟨_,_,by rw[e]⟩
  ·exact .inr ⟨_,_,by rw[e]⟩
theorem zUg(ar:∀a∈A,ArgOb h A a):HOk P w (zJt K h A) h:=fun b u q=>by
 obtain⟨_,vs,h1,h2,⟨e,rfl⟩ | ⟨e,rfl⟩⟩:=zJv ar q
 ·exact⟨e,by rw[List.length_map];exact h1,vs,_,zEr h2,e⟩
 ·exact⟨e,by rw[List.length_map];exact h1,vs,zEr h2,_,e,rfl,_,rfl⟩
theorem zJw{c c':Value}{vs us:List Value}(e:(some {cls:=c,data:= .seq vs.toArray}:Option Obj)=some {cls:=c',data:= .seq us.toArray}):c=c'/\vs=us:=by
 have e1:=Option.some.inj e
 have e2:c=c':=congrArg Obj.cls e1
 have e3:Data.seq vs.toArray=Data.seq us.toArray:=congrArg Obj.data e1
 injection e3 with e4
 refine⟨e2,?_⟩
 have e5:=congrArg Array.toList e4
 simpa using e5
theorem yCm(KX:K.In h)(ar:∀a∈A,ArgOb h A a){a:Addr}{vs:List Value}(ha:a∈A)(e:h.get? a=some {cls:= .type "list",data:= .seq vs.toArray}):(∀u∈vs,OkU A u)/\SqL K (zJt K h A) a (vs.map toV):=by
 obtain⟨us,h1,h2,h3⟩:=ar a ha
 have hu:us=vs:=by
  rcases h3 with q | q
  ·rw[e]at q
   exact(zJw q).2.symm
  ·rw[e]at q
   exact absurd (Value.type.inj (zJw q).1) (by decide)
 subst hu
 refine⟨h2,?_⟩
 cases hk:K.lookup a with
 | none=>exact .inl (.inr ⟨_,by rw[zJu ha hk e,zNf]⟩)
 | some o=>
  have e2:=KX a o hk
  rw[e]at e2
  obtain rfl:=Option.some.inj e2
  exact .inr ⟨_,us.toArray,_,hk,rfl,rfl,rfl,by rw[List.size_toArray];exact h1,by simpa using zEr h2⟩
theorem yCn(KX:K.In h)(ar:∀a∈A,ArgOb h A a){a:Addr}{vs:List Value}(ha:a∈A)(e:h.get? a=some {cls:= .type "tuple",data:= .seq vs.toArray}):(∀u∈vs,OkU A u)/\SqT K (zJt K h A) a (vs.map toV):=by
 obtain⟨us,h1,h2,h3⟩:=ar a ha
 have hu:us=vs:=by
  rcases h3 with q | q
  ·rw[e]at q
   exact absurd (Value.type.inj (zJw q).1) (by decide)
  ·rw[e]at q
   exact(zJw q).2.symm
 subst hu
 refine⟨h2,?_⟩
 cases hk:K.lookup a with
 | none=>exact .inl (.inr ⟨_,by rw[zJu ha hk e,zNg]⟩)
 | some o=>
  have e2:=KX a o hk
  rw[e]at e2
  obtain rfl:=Option.some.inj e2
  exact .inr ⟨_,us.toArray,_,hk,rfl,rfl,by rw[List.size_toArray];exact h1,by simpa using zEr h2⟩
mutual
theorem zV5{Pm:Params}(KX:K.In h)(ar:∀a∈A,ArgOb h A a):∀(d:WData) (v:Value),Well Pm h v d->plW d=true->OkU A v->Dw K (zJt K h A) (toV v) d
 | .none,_,x,_,_=>by
  cases x
  exact .non
 | .bool b,_,x,_,_=>by
  cases x
  exact .bl b
 | .int i,_,x,_,_=>by
  cases x
  exact .int i
 | .str s,_,x,_,_=>by
  cases x
  exact .str s
 | .bytes b,_,x,_,_=>by
  cases x
  have z:=Dw.byt (K:=K) (H:=zJt K h A) b.toArray
  exact z
 | .list ds,_,x,p,hu=>by
  obtain⟨a,vs,rfl,ho,hall⟩:=zLf x
  obtain⟨h2,hs⟩:=yCm KX ar hu ho
  exact .lst hs (zNh KX ar ds _ hall p h2)
 | .tuple ds,_,x,p,hu=>by
  obtain⟨a,vs,rfl,ho,hall⟩:=zI3 x
  obtain⟨h2,hs⟩:=yCn KX ar hu ho
  exact .tup hs (zNh KX ar ds _ hall p h2)
 | .float _,_,_,p,_=>Bool.noConfusion (show false=true from p)
 | .dict _,_,_,p,_=>Bool.noConfusion (show false=true from p)
 | .bytearray _,_,_,p,_=>Bool.noConfusion (show false=true from p)
 | .set _,_,_,p,_=>Bool.noConfusion (show false=true from p)
 | .frozenset _,_,_,p,_=>Bool.noConfusion (show false=true from p)
 | .obj _ _,_,_,p,_=>Bool.noConfusion (show false=true from p)
theorem zNh{Pm:Params}(KX:K.In h)(ar:∀a∈A,ArgOb h A a):∀(ds:List WData) (vs:List Value),WellAll Pm h vs ds->zO5 ds=true->(∀u∈vs,OkU A u)->zG4 K (zJt K h A) (vs.map toV) ds
 | [],_,x,_,_=>by
  cases x
  exact .nil
 | d::ds,_,x,p,hu=>by
  obtain⟨v,vs,rfl,x1,x2⟩:=zLg x
  have q:plW d=true/\zO5 ds=true:=Bool.and_eq_true_iff.mp p
  exact .cons (zV5 KX ar d v x1 q.1 (hu _ (List.mem_cons_self ..))) (zNh KX ar ds vs x2 q.2 fun u m=>hu u (List.mem_cons_of_mem _ m))
end
end
theorem zP2{P:Program}{w:World}{K:PySem.W.Frag}{mg mb:Str->Option Value}{CX:CXT}{k:Nat}{fa:Addr}{fd:FuncData}{ps:List Str}{sp:Sp}{s₁:Shared}{vals:List Value}{ds:List WData}{R:PySem.W.WRecords}{cl:Str->Option Addr}{d0:WData}
  (KX:K.In s₁.heap) (hns:s₁.heap.Ns mainGlobals mg) (hb:s₁.heap.Ns builtinsNs mb) (hbb:∀x:Str,x≠"__name__"->mb x=bootBuiltins x) (hlim:s₁.heap.NoLimit) (hg:s₁.gens= #[])
  (hwl:WellAll w.params s₁.heap vals ds) (hpl:zO5 ds=true) (hwt:∀d∈ds,d.weight<=1048576) (hr:Room k callerA)
  (F:∀base:Heap,K.In base->base.Ns mainGlobals mg->FnOk P w K mg base CX k fa fd ps sp) (hbind:∀(s:Shared) (us:List Value),us.length=ps.length->BindsTo s fd ⟨us,[]⟩ (ps.zip us)) (hlen:ds.length=ps.length)
  (hsp:∀(H:Hp) (xs:List V),zR2 H->zG4 K H xs ds->sp xs H (fun v H'=>Dw K H' v d0) fun _ _ _=>False)
  (hCX:∀H e s',CX [] H s₁ (fun _ _ _=>False) e s'->False):
  codeAny (model P w) callerA (.call (.ref fa) ⟨vals,[]⟩) (fun r s'=>∃u as,r= .ok (.ret u)/\ReadsW R cl s'.heap u d0 as/\OldK s₁.heap s'.heap/\s'.os=s₁.os/\AllBare s'.gens) s₁:=by
 obtain⟨A,ho,ar⟩:=zHa ds vals hwl hpl hwt
 have hO:zR2 (zJt K s₁.heap A):=zP1 ar
 have hok:HOk P w (zJt K s₁.heap A) s₁.heap:=zUg ar
 have hS:=zNh KX ar ds vals hwl hpl ho
 have hV:=zEr ho
 have hK:∀b u,zJt K s₁.heap A b=some u->K.lookup b=none:=fun b u q=>(zJv ar q).1
 have noA:∀{b:Addr} {o:Obj} {es:Array DictEntry} {ep:Nat},s₁.heap.get? b=some o->o.data= .dict es ep->zJt K s₁.heap A b=none:=fun {b o es ep} e d=>by
  cases q:zJt K s₁.heap A b with
  | none=>rfl
  | some u=>
   obtain⟨_,vs,_,_,⟨e2,_⟩ | ⟨e2,_⟩⟩:=zJv ar q
   ·rw[e2]at e
    cases e
    have d':Data.seq vs.toArray _=Data.dict es ep:=d
    cases d'
   ·rw[e2]at e
    cases e
    have d':Data.seq vs.toArray _=Data.dict es ep:=d
    cases d'
 generalize zJt K s₁.heap A=H at hO hok hS hK noA
 have base_of:∀{b:Addr} {o:Obj},s₁.heap.get? b=some o->H b=none->(zRd s₁.heap H).get? b=some o:=fun e n=>zRe e n
 have nsK:∀{b:Addr} {m:Str->Option Value},s₁.heap.Ns b m->(zRd s₁.heap H).Ns b m:=fun {b m} ⟨o,es,ep,e,d,r⟩=>⟨o,es,ep,base_of e (noA e d),d,r⟩
 have nK:∀b o,K.lookup b=some o->H b=none:=fun b o e=>by
  cases q:H b with
  | none=>rfl
  | some u=>
   rw[hK b u q]at e
   cases e
 have hKb:K.In (zRd s₁.heap H):=fun b o e=>base_of (KX b o e) (nK b o e)
 have hM:Mod K mg (zRd s₁.heap H):=⟨hKb,nsK hns,⟨mb,nsK hb,hbb⟩,let⟨mc,h1,h2⟩:=hlim;⟨mc,nsK h1,h2⟩⟩
 have e0:Env0 P w K mg (zRd s₁.heap H) callerA [] s₁ H:=⟨rfl,hM,fun b o e=>zTn e,Nat.le_of_eq (zPc _ _),trivial,fun b hb=>absurd (show b∈([]:List Addr)from hb) (by simp),hok,.of_eq hg⟩
 have hl:vals.length=ps.length:=by rw[zD3 hwl];exact hlen
 refine codeAny_mono ((F _ hKb (nsK hns)).run callerA [] s₁ H ⟨vals,[]⟩ vals (vals.map toV) _ _ hr e0 (hbind s₁ vals hl) hV (hsp H _ hO hS)) fun r s' x=>?_
 cases r with
 | error e=>exact(hCX H e s' x).elim
 | ok fl=>
  cases fl with
  | next=>exact False.elim x
  | brk=>exact False.elim x
  | cont=>exact False.elim x
  | ret u=>
   obtain⟨v,H',os,bare,un,hok',r',q⟩:=x
   have kept:∀b o,s₁.heap.get? b=some o->s'.heap.get? b=some o:=fun b o e=>by
    cases q2:H b with
    | none=>exact un.keep b o e q2 (by intro z;exact absurd (show b∈([]:List Addr)from z) (by simp)) (by simp)
    | some u2=>
     rcases hO b with z | ⟨ob,u3,z⟩
     ·rw[q2]at z
      cases z
     ·have z2:=un.frzs b ob _ z
      obtain⟨e1,_⟩:=hok b _ z
      obtain⟨e2,_⟩:=hok' b _ z2
      rw[e]at e1
      cases e1
      exact e2
   have KX':K.In s'.heap:=fun b o e=>kept b o (KX b o e)
   obtain⟨as,hrd⟩:=Dw.reads (R:=R) (cl:=cl) hok' KX' d0 v u q r'
   exact⟨u,as,rfl,hrd,OldK.of_keep kept,os,bare⟩
theorem zIi{ds:List WData}(h:WData.layableAll ds=true):∀d∈ds,d.weight<=1048576:=fun d hd=>
 (PySem.W.layableW_iff.mp (List.all_eq_true.mp h d hd)).2.2
theorem zI4:∀(cs:List Codec) (a:Codec.denoteAll cs),(Codec.encAll cs a).length=cs.length
 | [],_=>rfl
 | c::cs,a=>by
  show(Codec.encAll cs a.2).length+1=cs.length+1
  rw[zI4 cs a.2]
theorem walk_spec{r:OpenSpec}{k:Nat}{q:Program}{loose:List Str}{XP:(Str->Option Value)->Heap->Prop}{YP:World->Heap->Prop}{d:DefRec}{K:Params->PySem.W.Frag}{CX:World->CXT}{ps:List Str}{sp:World->Sp}
  (hwell:r.wellSaid=true) (hdf:d.params.defaults= []) (hlen:r.args.length=ps.length) (hr:Room k callerA)
  (hY:∀(w:World) (h:Heap),YP w h->(K w.params).In h)
  (F:∀(w:World) (mg:Str->Option Value) (fa:Addr) (h:Heap),YP w h->(K w.params).In h->h.Ns mainGlobals mg->mg d.name=some (.ref fa)->
   ∃fd:FuncData,(∀(s:Shared) (us:List Value),us.length=ps.length->BindsTo s fd ⟨us,[]⟩ (ps.zip us))/\
    ∀base:Heap,(K w.params).In base->base.Ns mainGlobals mg->FnOk r.prog w (K w.params) mg base (CX w) k fa fd ps (sp w))
  (hsp:∀(w:World) (H:Hp) (xs:List V) (a:Codec.denoteAll r.args),zR2 H->Codec.withinAll r.args a=true->Codec.app r.args r.asked a=true->zG4 (K w.params) H xs (Codec.encAll r.args a)->
   sp w xs H (fun v H'=>Dw (K w.params) H' v (r.ret.enc (Codec.app r.args r.f a))) fun _ _ _=>False)
  (hCX:∀(w:World) (H:Hp) (s:Shared) (e:Value) (s':Shared),CX w [] H s (fun _ _ _=>False) e s'->False):
  PySem.W.WalkOS q loose XP YP r d [] (fun f vs=>PySem.call f vs):=by
 intro w s_0 s₁ mg mb G Y fa o pm cd doc dV kV ho hd hcd hD hmg hg args vals as hpre hlay hrd hwl hlo
 obtain⟨a,e1,e2⟩:=PySem.W.os_pre_some hpre
 obtain⟨e3,hwi⟩:=Codec.encAll_of_decAll r.args args a e1
 subst e3
 have KX:=hY w _ Y
 obtain⟨fd,hb,hF⟩:=F w mg fa _ Y KX G.T.g hmg
 refine PySem.W.enter_call (codeAny_mono (zP2 (R:=[]) (cl:=classAt s_0.heap) (d0:=r.ret.enc (Codec.app r.args r.f a)) KX G.T.g G.T.b G.T.builtins G.T.nolimit hg hwl (zLe _ _) (zIi hlay) hr hF hb (by rw[zI4];exact hlen)
  (fun H xs hO hS=>hsp w H xs a hO hwi e2 hS) fun H e s'=>hCX w H s₁ e s') fun r' s' hq=>?_)
 obtain⟨u,as',rfl,h1,h2,h3,h4⟩:=hq
 exact⟨.inl ⟨u,_,as',rfl,fun _=>rfl,h1,(OpenSpec.post_iff hwell hwi _ _).mpr rfl,fun z=>Bool.noConfusion (show false=true from z)⟩,h2,h3,h4⟩
end L2
end
namespace L2
open PySem
section
variable {prog:Program} {w:World} {K:Type} [DecidableEq K] (knd:KeyKind prog w K)
inductive RowsAre(h:Heap):List (List K)->List Value->Prop
 | nil:RowsAre h [] []
 | cons {r:List K} {b:Addr} {rs:List (List K)} {us:List Value}:IsTupleKey knd h r b->RowsAre h rs us->RowsAre h (r::rs) (.ref b::us)
noncomputable def IsNest(h:Heap)(rs:List (List K))(a:Addr):Prop:=∃ob its m,h.get? a=some ob/\ob.cls= .type "tuple"/\ob.data= .seq its m/\RowsAre knd h rs its.toList
variable {knd}
theorem RowsAre.inj{h:Heap}{x y:List (List K)}{us:List Value}(p:RowsAre knd h x us):RowsAre knd h y us->x=y:=by
 induction p generalizing y with
 | nil=>intro q;cases q;rfl
 | cons e _ ih=>intro q;cases q with | cons e' q'=>rw[e.inj e',ih q']
theorem RowsAre.keeps{h h':Heap}{x:List (List K)}{us:List Value}{d:Addr}{o:Obj}{es ep}(p:RowsAre knd h x us)(ho:h.get? d=some o)(hd:o.data= .dict es ep)(hs:Heap.SameBut d h h'):RowsAre knd h' x us:=by
 induction p with
 | nil=>exact .nil
 | cons e _ ih=>exact .cons (e.keeps ho hd hs) ih
theorem IsNest.typeIs{s:Shared}{rs:List (List K)}{a:Addr}(p:IsNest knd s.heap rs a):s.TypeIs (.ref a) "tuple":=by
 obtain⟨ob,_,_,e,c,_⟩:=p
 exact⟨ob,e,c⟩
theorem IsNest.inj{h:Heap}{a:Addr}{x y:List (List K)}(p:IsNest knd h x a)(q:IsNest knd h y a):x=y:=by
 obtain⟨ob,its,m,e,_,d,r⟩:=p
 obtain⟨ob',its',m',e',_,d',r'⟩:=q
 rw[e]at e'
 cases e'
 rw[d]at d'
 cases d'
 exact r.inj r'
theorem IsNest.keeps{h h':Heap}{rs:List (List K)}{a d:Addr}{o:Obj}{es ep}(p:IsNest knd h rs a)(ho:h.get? d=some o)(hd:o.data= .dict es ep)(hs:Heap.SameBut d h h'):IsNest knd h' rs a:=by
 obtain⟨ob,its,m,e,c,dd,r⟩:=p
 have ne:a≠d:=fun z=>by
  rw[z,ho]at e
  cases e
  rw[hd]at dd
  cases dd
 exact⟨ob,its,m,(hs.2 a ne).trans e,c,dd,r.keeps ho hd hs⟩
noncomputable def zJx(knd:KeyKind prog w K)(rs:List (List K)):Int:=reduceHash (Builtin.Tuple.tupleHashOf (rs.map (tupleKeyHash knd)))
noncomputable def zH0(rs:List (List K)):Nat:=(rs.map fun r=>r.length+1).sum+1
variable {A:Around} {E:Value->Shared->Prop} {s:Shared}
theorem zP3{rs:List (List K)}{a:Addr}{Q:Int->Shared->Prop}(hu:A.units+4 < cLine)(p:IsNest knd s.heap rs a)(q:Q (zJx knd rs) {s with toks:=s.toks+zH0 rs}):
  wpAny (model prog w) A (pyHash (.ref a)) Q E s:=by
 have ty:=p.typeIs
 obtain⟨ob,its,m,e,_,d,r⟩:=p
 unfold pyHash
 first | unfold pyHashByItsType | skip
 first | refine wpAny_bind (wpAny_cRoomFor_or (.inr (by omega)) ?_) | skip
 refine wpAny_bind (wpAny_specialOf ty F.slot_tuple_hash.lookup ?_)
 show wpAny _ _ (if (some (Value.builtin "tuple.__hash__") == some Value.none)=true then _ else _) Q E s
 rw[if_neg (by rw[beq_builtin_none];decide)]
 refine wpAny_bind (wpAny_specialOf ty F.slot_tuple_hash.lookup ?_)
 show wpAny _ _ (callSpecialIfBoundUnlessNone? (.ref a) "__hash__" _ >>= _) Q E s
 refine wpAny_bind (wpAny_callSpecialIfBoundUnlessNone?_slot ty F.slot_tuple_hash (wpAny_call_entry F.slot_tuple_hash ty F.entry_tuple_hash ?_ (F.args_tuple_hash_1 _)))
 show wpAny _ _ (Builtin.Tuple.tupleItemsOf (.ref a) >>= _) _ _ s
 refine wpAny_bind (wpAny_tupleItemsOf e d (wpAny_bind ?_))
 rw[<-Array.forIn_toList]
 refine wpAny_forIn_list _ (fun rest (b:Array Int) s'=>∃dn lf,rs=dn++lf/\RowsAre knd s.heap lf rest/\b.toList=dn.map (tupleKeyHash knd)/\s'= {s with toks:=s.toks+ (dn.map fun r=>r.length+1).sum}) _ ?_ ?_ _ _ ⟨[],rs,rfl,r,rfl,rfl⟩
 ·rintro x rest b s' ⟨dn,lf,rfl,hl,hb,rfl⟩
  cases hl with
  | @cons r1 b1 rs1 us1 h1 hl1=>
   refine wpAny_bind (wpAny_pyHash_tuple (knd:=knd) (by show A.units+1 < cLine;omega) h1 ?_)
   first
    | exact wpAny_pure ⟨dn++ [r1],rs1,by simp,hl1,by simp[hb],by simp[Nat.add_assoc]⟩
    | exact wpAny_bind (wpAny_pure (wpAny_pure ⟨dn++ [r1],rs1,by simp,hl1,by simp[hb],by simp[Nat.add_assoc]⟩))
 ·rintro b s' ⟨dn,lf,rfl,hl,hb,rfl⟩
  cases hl
  rw[List.append_nil]at q
  show wpAny _ _ (retInt (Builtin.Tuple.tupleHashOf b.toList)) _ _ _
  rw[hb]
  refine wpAny_ret_mkInt ?_
  unfold zJx reduceHash zH0 at q
  generalize Builtin.Tuple.tupleHashOf (dn.map (tupleKeyHash knd))=z at q ⊢
  show wpAny _ _ (if (decide (-(2:Int) ^ 63<=z) &&decide (z < 2 ^ 63))=true then _ else _) Q E _
  by_cases hz:(decide (-(2:Int) ^ 63<=z) &&decide (z < 2 ^ 63))=true
  ·rw[if_pos hz]at q ⊢
   exact wpAny_pure (by simpa [Nat.add_assoc]using q)
  ·rw[if_neg hz]at q ⊢
   exact wpAny_bind (wpAny_rule (wpAny_pure (by simpa [Nat.add_assoc]using q)))
theorem zP4{x y:List (List K)}{a b:Addr}{P:Fin->Shared->Prop}(hu:A.units < cLine)(hx:IsNest knd s.heap x a)(hy:IsNest knd s.heap y b)(h:P (.done (.ret (.bool (decide (x=y))))) s):
  wpAny (model prog w) A (Builtin.«tuple.__eq__» ⟨[.ref a,.ref b],[]⟩) P E s:=by
 have ty:=hy.typeIs
 obtain⟨oa,xs,na,hoa,_,hda,ra⟩:=hx
 obtain⟨ob,ys,nb,hob,_,hdb,rb⟩:=hy
 show wpAny _ _ (isInstance (.ref b) (.type "tuple") >>= _) _ _ s
 refine wpAny_bind (wpAny_isInstance ty isSubtype_tuple_tuple ?_)
 simp only [Bool.not_true,Bool.false_eq_true,if_false]
 refine wpAny_bind (wpAny_tupleItemsOf hoa hda (wpAny_bind (wpAny_tupleItemsOf hob hdb (wpAny_bind ?_))))
 refine wpAny_forIn_list _ (fun rest r s'=>r.1=none/\s'=s/\∃x1 y1 us vs,rest=List.zip us vs/\RowsAre knd s.heap x1 us/\RowsAre knd s.heap y1 vs/\decide (x1=y1)=decide (x=y)/\(us.length == vs.length)=(xs.size == ys.size))
  _ ?_ ?_ _ _ ⟨rfl,rfl,x,y,xs.toList,ys.toList,rfl,ra,rb,rfl,by simp⟩
 ·rintro⟨u,v⟩ rest r s' ⟨hr,rfl,x1,y1,us,vs,hz,hx1,hy1,hdec,hlen⟩
  cases hx1 with
  | nil=>simp at hz
  | @cons k1 b1 x2 us2 h1 hx2=>
   cases hy1 with
   | nil=>simp at hz
   | @cons k2 b2 y2 vs2 h2 hy2=>
    simp only [List.zip_cons_cons,List.cons.injEq,Prod.mk.injEq]at hz
    obtain⟨⟨rfl,rfl⟩,rfl⟩:=hz
    refine wpAny_bind (wpAny_eqBool_tuple (knd:=knd) hu h1 h2 ?_)
    by_cases hk:k1=k2
    ·subst hk
     rw[decide_eq_true rfl]
     simp only [Bool.not_true,Bool.false_eq_true,if_false]
     refine wpAny_pure ⟨rfl,rfl,x2,y2,us2,vs2,rfl,hx2,hy2,?_,by simpa using hlen⟩
     rw[<-hdec]
     by_cases hxy:x2=y2 <;> simp[hxy]
    ·rw[decide_eq_false hk]
     simp only [Bool.not_false,if_true]
     have hf:decide (x=y)=false:=by rw[<-hdec];simp[hk]
     rw[hf]at h
     exact wpAny_bind (wpAny_pure (wpAny_pure (wpAny_pure h)))
 ·rintro⟨r1,r2⟩ s' ⟨hr,rfl,x1,y1,us,vs,hz,hx1,hy1,hdec,hlen⟩
  simp only at hr
  subst hr
  refine wpAny_pure ?_
  have fin:(xs.size == ys.size)=decide (x=y):=by
   rw[<-hdec,<-hlen]
   cases hx1 with
   | nil=>cases hy1 <;> simp
   | cons _ _=>
    cases hy1 with
    | nil=>simp
    | cons _ _=>simp at hz
  show P (.done (.ret (.bool (xs.size == ys.size)))) s'
  rw[fin]
  exact h
theorem zUh{x y:List (List K)}{a b:Addr}{Q:Bool->Shared->Prop}(hu:A.units+4 < cLine)(hx:IsNest knd s.heap x a)(hy:IsNest knd s.heap y b)(h:Q (decide (x=y)) s):
  wpAny (model prog w) A (eqBool (.ref a) (.ref b)) Q E s:=by
 unfold eqBool
 try with_reducible refine wpAny_holding ?_
 show wpAny _ _ (if (Value.ref a == Value.ref b)=true then _ else _) Q E s
 by_cases ab:a=b
 ·subst ab
  rw[if_pos (beq_self_eq_true _)]
  obtain rfl:=hx.inj hy
  exact wpAny_bind (wpAny_rule (wpAny_pure (by simpa using h)))
 ·rw[if_neg fun z=>ab (Value.ref.inj (eq_of_beq z))]
  refine wpAny_bind (wpAny_richCompare_same_room (op:= .Eq) hx.typeIs hy.typeIs F.slot_tuple_eq ?_ (by omega))
  exact wpAny_call_entry F.slot_tuple_eq hx.typeIs F.entry_tuple_eq (zP4 (by show A.units+1 < cLine;omega) hx hy ⟨_,rfl,(fun e=>nomatch e),wpAny_truthy_bool h⟩) (F.args_tuple_eq_2 _ _)
theorem zP5{r:List K}{a:Addr}{n:Nat}{Q:Bool->Shared->Prop}(p:IsTupleKey knd s.heap r a)(q:Q true s):wpAny (model prog w) A (eqIsQuiet (n+1) (.ref a)) Q E s:=by
 have ty:=p.typeIs
 obtain⟨ob,its,m,e,_,d,r⟩:=p
 unfold eqIsQuiet
 refine wpAny_bind (wpAny_specialOf ty F.slot_tuple_eq.lookup ?_)
 show wpAny _ _ (isInstance (.ref a) (.type "tuple") >>= _) _ _ s
 refine wpAny_bind (wpAny_isInstance ty isSubtype_tuple_tuple ?_)
 simp only [Bool.not_true,Bool.false_eq_true,if_false]
 refine wpAny_bind (wpAny_seqItems e d (wpAny_bind ?_))
 show wpAny _ _ (forIn its _ _) _ _ s
 rw[<-Array.forIn_toList]
 refine wpAny_forIn_list _ (fun rest b s'=>b.1=none/\s'=s/\∀v∈rest,carriedByValue v=true) _ ?_ ?_ _ _ ⟨rfl,rfl,r.byValue⟩
 ·rintro v rest b s' ⟨hb,rfl,hall⟩
  rw[eqIsQuiet_byValue _ (hall v List.mem_cons_self)]
  refine wpAny_bind (wpAny_pure ?_)
  simp only [Bool.not_true,Bool.false_eq_true,if_false]
  exact wpAny_pure ⟨rfl,rfl,fun u hv=>hall u (List.mem_cons_of_mem _ hv)⟩
 ·rintro⟨b1,b2⟩ s' ⟨hb,rfl,_⟩
  simp only at hb
  subst hb
  exact wpAny_pure q
theorem zOl{rs:List (List K)}{a:Addr}{Q:Bool->Shared->Prop}(p:IsNest knd s.heap rs a)(q:Q true s):wpAny (model prog w) A (eqIsQuiet 8 (.ref a)) Q E s:=by
 have ty:=p.typeIs
 obtain⟨ob,its,m,e,_,d,r⟩:=p
 unfold eqIsQuiet
 refine wpAny_bind (wpAny_specialOf ty F.slot_tuple_eq.lookup ?_)
 show wpAny _ _ (isInstance (.ref a) (.type "tuple") >>= _) _ _ s
 refine wpAny_bind (wpAny_isInstance ty isSubtype_tuple_tuple ?_)
 simp only [Bool.not_true,Bool.false_eq_true,if_false]
 refine wpAny_bind (wpAny_seqItems e d (wpAny_bind ?_))
 show wpAny _ _ (forIn its _ _) _ _ s
 rw[<-Array.forIn_toList]
 refine wpAny_forIn_list _ (fun rest b s'=>b.1=none/\s'=s/\∃lf,RowsAre knd s.heap lf rest) _ ?_ ?_ _ _ ⟨rfl,rfl,rs,r⟩
 ·rintro v rest b s' ⟨hb,rfl,lf,hl⟩
  cases hl with
  | cons h1 hl1=>
   refine wpAny_bind (zP5 (n:=6) h1 ?_)
   simp only [Bool.not_true,Bool.false_eq_true,if_false]
   exact wpAny_pure ⟨rfl,rfl,_,hl1⟩
 ·rintro⟨b1,b2⟩ s' ⟨hb,rfl,_⟩
  simp only at hb
  subst hb
  exact wpAny_pure q
end
noncomputable def zHb{prog:Program}{w:World}{K:Type}[DecidableEq K](knd:KeyKind prog w K):HeapKind prog w (List (List K)) where
 is:=IsNest knd
 hash:=zJx knd
 draws:=zH0
 room:=fun A=>A.units+4 < cLine
 inj:=fun p q=>p.inj q
 keeps:=fun p ho hd hs=>p.keeps ho hd hs
 pyHash:=fun hu p q=>zP3 hu p q
 eqBool:=fun hu p q h=>zUh hu p q h
 quiet:=fun p q=>zOl p q
end L2
set_option maxRecDepth 100000
set_option maxHeartbeats 4000000
namespace L2
open PySem PySem.Spec PyProof.Rows
noncomputable def zUi(h B:Heap)(x:Addr)(cls:Value):Prop:=
 (∃a0 fl,h.TracedAtW B x cls a0 fl)\/∃oe vs a0,h.get? x=some oe/\oe.cls=cls/\oe.data= .fields vs/\vs[1]? =some .none/\vs[0]? =some a0
noncomputable def Covers(B h g:Heap)(H:Hp)(pn:List (Addr×Obj))(ex l:List Addr):Prop:=
 ∀b ob,h.get? b=some ob->((H b).isSome=true\/((g.get? b).isSome=true/\b∉ex)\/∃o,(b,o)∈pn)->b∉l->B.get? b=some ob
section
variable {M:Model} {A:Around} {E:Value->Shared->Prop} {s:Shared}
theorem zOm{base:Heap}{env:Env}{outer:List Env}{L e:Addr}{cls:Value}{Q:Unit->Shared->Prop}
  (hfr:A.frames=some (env::outer)) (hf:env.frame=some L) (hkb:base.StaysIn s.heap) (hen:base.get? e=none) (hl:s.heap.FunFrames base (env::outer)) (hx:zUi s.heap base e cls)
  (hQ:∀h' a0,Heap.FlyingW base outer e cls a0 h'->s.heap.UpToSlots h'->Q () {s with heap:=h'}):wpAny M A (leaving env (.ref e)) Q E s:=by
 rcases hx with⟨a0,fl,ht⟩ | ⟨oe,vs,a0,he,hc,hd,h1,h0⟩
 ·by_cases hfl:fl=rawInt L
  ·subst hfl
   unfold leaving
   refine wpAny_bind (wpAny_noteFrame_againW hf ht ?_)
   refine wpAny_landsW (l:=env::outer) ⟨hkb,hen,hl,ht⟩ fun h' hfl sm=>?_
   obtain⟨k1,k2,⟨_,_,k3⟩,k4⟩:=hfl
   exact hQ h' a0 ⟨k1,k2,k3,k4⟩ sm
  ·obtain⟨oe,vs,T,oT,ts,he,⟨hcls,h0⟩,hd,h1,hnT,hTe,hT,hdT,h3⟩:=ht
   subst hcls
   unfold leaving noteFrame
   simp only [hf]
   refine wpAny_bind (wpAny_bind (wpAny_field he hd h1 ?_))
   rw[if_pos (show(Value.ref T != Value.none)=true from by simp)]
   refine wpAny_bind (wpAny_field hT hdT h3 ?_)
   rw[if_neg (show¬((fl == rawInt L)=true)from fun q=>hfl (eq_of_beq q))]
   refine wpAny_bind (wpAny_setField hT hdT (Array.getElem?_eq_some_iff.mp h3).1 ?_)
   have other:∀b,b≠T->(s.heap.update T (Obj.mapFields (·.setIfInBounds 3 Value.none))).get? b=s.heap.get? b:=fun b hb=>Heap.get?_update_other _ _ (Ne.symm hb)
   have noRecord:∀b o,s.heap.get? b=some o->(∀vs,o.data≠.fields vs)->b≠T:=fun b o hb hnf q=>by
    rw[q,hT]at hb;injection hb with hb;subst hb;exact hnf ts hdT
   refine wpAny_newEntryW hfr (hl.of_keeps fun b o hb hnf=>⟨o,(other b (noRecord b o hb hnf)).trans hb,rfl⟩) hf ((other e (Ne.symm hTe)).trans he)
    (fun b o hbo=>(other b fun q=>by rw[q,hnT]at hbo;cases hbo).trans (hkb b o hbo)) hen hd (Array.getElem?_eq_some_iff.mp h1).1 h0
    fun h' ⟨x1,⟨_,_,x2⟩,x3,x4⟩=>hQ h' a0 ⟨x1,hen,x2,x3⟩ fun b o hb hnf=>x4 b o ((other b (noRecord b o hb hnf)).trans hb) hnf
 ·subst hc
  refine wpAny_leaving_firstW hfr hl hf he hkb hen hd h1 h0 fun h' ⟨x1,⟨_,_,x2⟩,x3,x4⟩=>?_
  exact hQ h' a0 ⟨x1,hen,x2,x3⟩ x4
theorem zLh{base:Heap}{env:Env}{outer:List Env}{L e:Addr}{cls:Value}{Q:Unit->Shared->Prop}
  (hfr:A.frames=some (env::outer)) (hf:env.frame=some L) (hkb:base.StaysIn s.heap) (hen:base.get? e=none) (hl:s.heap.FunFrames base (env::outer)) (hx:zUi s.heap base e cls)
  (hQ:∀h' a0,Heap.HeldW base (env::outer) e cls a0 L h'->s.heap.UpToSlots h'->Q () {s with heap:=h'}):wpAny M A (noteFrame (.ref e) env) Q E s:=by
 rcases hx with⟨a0,fl,ht⟩ | ⟨oe,vs,a0,he,hc,hd,h1,h0⟩
 ·by_cases hfl:fl=rawInt L
  ·subst hfl
   exact wpAny_noteFrame_againW hf ht (hQ _ a0 ⟨hkb,hen,hl,ht⟩ (Heap.UpToSlots.refl _))
  ·obtain⟨oe,vs,T,oT,ts,he,⟨hcls,h0⟩,hd,h1,hnT,hTe,hT,hdT,h3⟩:=ht
   subst hcls
   unfold noteFrame
   simp only [hf]
   refine wpAny_bind (wpAny_field he hd h1 ?_)
   rw[if_pos (show(Value.ref T != Value.none)=true from by simp)]
   refine wpAny_bind (wpAny_field hT hdT h3 ?_)
   rw[if_neg (show¬((fl == rawInt L)=true)from fun q=>hfl (eq_of_beq q))]
   refine wpAny_bind (wpAny_setField hT hdT (Array.getElem?_eq_some_iff.mp h3).1 ?_)
   have other:∀b,b≠T->(s.heap.update T (Obj.mapFields (·.setIfInBounds 3 Value.none))).get? b=s.heap.get? b:=fun b hb=>Heap.get?_update_other _ _ (Ne.symm hb)
   have noRecord:∀b o,s.heap.get? b=some o->(∀vs,o.data≠.fields vs)->b≠T:=fun b o hb hnf q=>by
    rw[q,hT]at hb;injection hb with hb;subst hb;exact hnf ts hdT
   refine wpAny_entryW hfr (hl.of_keeps fun b o hb hnf=>⟨o,(other b (noRecord b o hb hnf)).trans hb,rfl⟩) hf ((other e (Ne.symm hTe)).trans he)
    (fun b o hbo=>(other b fun q=>by rw[q,hnT]at hbo;cases hbo).trans (hkb b o hbo)) hen hd (Array.getElem?_eq_some_iff.mp h1).1 h0
    fun h' ⟨x1,x2,x3,x4⟩=>hQ h' a0 ⟨x1,hen,x2,x3⟩ fun b o hb hnf=>x4 b o ((other b (noRecord b o hb hnf)).trans hb) hnf
 ·subst hc
  unfold noteFrame
  simp only [hf]
  refine wpAny_bind (wpAny_field he hd h1 ?_)
  rw[if_neg (by decide)]
  refine wpAny_entryW hfr hl hf he hkb hen hd (Array.getElem?_eq_some_iff.mp h1).1 h0 fun h' ⟨x1,x2,x3,x4⟩=>?_
  exact hQ h' a0 ⟨x1,hen,x2,x3⟩ x4
end
section
variable {P:Program} {w:World} {H:Hp} {B h h' g:Heap} {pn:List (Addr×Obj)} {ex l:List Addr}
theorem Covers.at(c:Covers B h g H pn ex l)(k:B.StaysIn h'){b:Addr}{ob:Obj}(e:h.get? b=some ob)(z:(H b).isSome=true\/((g.get? b).isSome=true/\b∉ex)\/∃o,(b,o)∈pn)(hn:b∉l):h'.get? b=some ob:=k _ _ (c b ob e z hn)
theorem Covers.hok(c:Covers B h g H pn ex l)(k:B.StaysIn h')(hl:∀b∈l,H b=none)(ok:HOk P w H h):HOk P w H h':=fun a o e=>
 (ok a o e).stay (fun b u hb q=>by
  have tb:(H b).isSome=true:=by
   rcases hb with hb | hb
   ·rw[hb,e];rfl
   ·rw[hb];rfl
  exact c.at k q (.inl tb) fun m=>by rw[hl b m]at tb;cases tb) (fun _ q=>q) fun _ _ q=>q
theorem Covers.un{fs:List Addr}{H0:Hp}{h0:Heap}(c:Covers B h h0 H pn ex l)(k:B.StaysIn h')(sm:h.UpToSlots h')(hl:∀b,b∈l->(h0.get? b).isSome=true->b∈fs)(hd:∀b∈fs,∀o,h.get? b=some o->∀vs,o.data≠.fields vs)
  (U:Un fs ex H0 H h0 h):Un fs ex H0 H h0 h' where
 keep:=fun b o e n hb hx=>c.at k (U.keep b o e n hb hx) (.inr (.inl ⟨by rw[e];rfl,hx⟩)) fun m=>hb (hl b m (by rw[e];rfl))
 slot:=fun b o e n hb hx=>by
  obtain⟨sl,e1⟩:=U.slot b o e n hb hx
  obtain⟨sl2,e2⟩:=sm b _ e1 (hd b hb _ e1)
  exact⟨sl2,e2⟩
 free:=U.free
 there:=fun b o e hx=>by
  obtain⟨o1,e1⟩:=U.there b o e hx
  by_cases hb:b∈fs
  ·obtain⟨sl2,e2⟩:=sm b _ e1 (hd b hb _ e1)
   exact⟨_,e2⟩
  ·exact⟨o1,c.at k e1 (.inr (.inl ⟨by rw[e];rfl,hx⟩)) fun m=>hb (hl b m (by rw[e];rfl))⟩
 tups:=U.tups
 frzs:=U.frzs
 tbls:=U.tbls
theorem Covers.step(c:Covers B h g H pn ex l)(k:B.StaysIn h')(ht:∀b,((H b).isSome=true\/((g.get? b).isSome=true/\b∉ex)\/∃o,(b,o)∈pn)->∃ob,h.get? b=some ob):Covers B h' g H pn ex l:=fun b ob e z hn=>by
 obtain⟨o1,e1⟩:=ht b z
 have q:=c b o1 e1 z hn
 rw[k _ _ q]at e
 cases e
 exact q
end
structure Fly(X:Cx)(H:Hp)(x:Addr)(cls:Value)(s:Shared):Prop where
 inv:∃pins σ,Inv X pins σ H s
 at_:∃B,B.StaysIn s.heap/\B.get? x=none/\s.heap.FunFrames B X.stack/\zUi s.heap B x cls/\Covers B s.heap X.s_0.heap H X.pn X.ex (frs X.stack)
noncomputable def Wants(X:Cx)(E:XK):Prop:=∀H x cls s,Fly X H x cls s->E cls none H->X.xe (.ref x) s
noncomputable def CXe(P:Program)(w:World):CXT:=fun outer H s E e s'=>∃(x:Addr) (cls a0:Value) (H':Hp) (B:Heap),e= .ref x/\s'.os=s.os/\AllBare s'.gens/\Un (frs outer) [] H H' s.heap s'.heap/\HOk P w H' s'.heap/\
 Heap.FlyingW B outer x cls a0 s'.heap/\Covers B s'.heap s.heap H' [] [] (frs outer)/\E cls none H'
theorem ObjOk.there{P:Program}{w:World}{H:Hp}{h:Heap}{a:Addr}{o:HO}(x:ObjOk P w H h a o):∃ob,h.get? a=some ob:=by
 cases o with
 | lst xs=>obtain⟨_,_,_,_,e⟩:=x;exact⟨_,e⟩
 | tup xs=>obtain⟨_,_,_,ob,e,_⟩:=x;exact⟨_,e⟩
 | dK kvs=>obtain⟨_,_,_,_,o,_,_,e,_⟩:=x;exact⟨_,e⟩
 | dT kvs=>obtain⟨_,_,_,_,o,_,_,e,_⟩:=x;exact⟨_,e⟩
 | set S n=>obtain⟨o,_,_,_,e,_⟩:=x;exact⟨_,e⟩
 | ins C dx fs=>obtain⟨_,_,_,e,_⟩:=x;exact⟨_,e⟩
 | own y=>exact x
 | xd fs=>obtain⟨_,⟨_,_,_,e,_⟩,_⟩:=x;exact⟨_,e⟩
 | rng lo hi=>obtain⟨_,_,_,e⟩:=x;exact⟨_,e⟩
 | frz ob u=>obtain⟨e,_⟩:=x;exact⟨_,e⟩
 | tbl ps=>exact⟨_,(show h.get? a=some _ from x)⟩
 | met f y=>exact⟨_,(show h.get? a=some _ from x)⟩
 | ext φ=>obtain⟨_,e,_⟩:=x;exact e
theorem HOk.there{P:Program}{w:World}{H:Hp}{h:Heap}(ok:HOk P w H h){b:Addr}(hb:(H b).isSome=true):∃o,h.get? b=some o:=by
 cases e:H b with
 | none=>rw[e]at hb;cases hb
 | some u=>exact(ok b u e).there
section
variable {X:Cx} {pins:List (Addr×Obj)} {σ:St} {H:Hp} {s:Shared} {E:XK}
theorem Inv.cov(I:Inv X pins σ H s):∀b,((H b).isSome=true\/((X.s_0.heap.get? b).isSome=true/\b∉X.ex)\/∃o,(b,o)∈X.pn)->∃ob,s.heap.get? b=some ob:=fun b z=>by
 rcases z with z | ⟨z,hn⟩ | ⟨o,z⟩
 ·exact I.hok.there z
 ·obtain⟨o,e⟩:=Option.isSome_iff_exists.mp z
  exact I.base.there b o e hn
 ·exact⟨o,(I.pin (b,o) (List.mem_append_left _ z)).1⟩
theorem IsCell.slots{h h':Heap}{c:Addr}{v:Option Value}(x:h.IsCell c v)(sm:h.UpToSlots h'):h'.IsCell c v:=by
 obtain⟨o,e,d⟩:=x
 obtain⟨sl,e2⟩:=sm c o e fun vs q=>by rw[d]at q;cases q
 exact⟨_,e2,d⟩
theorem Inv.land{B h':Heap}(I:Inv X pins σ H s)(c:Covers B s.heap X.s_0.heap H X.pn X.ex (frs X.stack))(k:B.StaysIn h')(sm:s.heap.UpToSlots h'):Inv X [] σ H {s with heap:=h'}:=by
 have U:Un X.fs X.ex X.H_0 H X.s_0.heap h':=by
  refine c.un k sm (fun b hb hg=>?_) (fun b hb=>?_) I.base
  ·rcases List.mem_cons.mp (I.stkSub b hb)with e | hb
   ·subst e
    obtain⟨o,e⟩:=Option.isSome_iff_exists.mp hg
    exact absurd (Nat.lt_of_lt_of_le (Heap.lt_size e) I.ok.above) (Nat.lt_irrefl _)
   ·exact hb
  ·intro o e
   obtain⟨_,o',e',d⟩:=(I.funs).mem hb
   rw[e]at e'
   cases e'
   exact d
 obtain⟨m,hn,hloc⟩:=I.loc
 refine⟨I.ok,I.os,I.bare,U,⟨m,sm.ns hn,fun i x v e1 e2 e3=>?_⟩,fun x c' e=>?_,I.free,I.freeC,fun p hp=>?_,c.hok k I.stkFree I.hok,I.len⟩
 ·obtain⟨u,r,q⟩:=hloc i x v e1 e2 e3
  refine⟨u,r,?_⟩
  rcases q with q | ⟨q,c',e,z⟩
  ·exact .inl q
  ·exact .inr ⟨q,c',e,IsCell.slots z sm⟩
 ·obtain⟨v,z⟩:=I.cell x c' e
  exact⟨v,IsCell.slots z sm⟩
 ·have hp:p∈X.pn:=by simpa using hp
  obtain⟨e,n,ne,nf,d⟩:=I.pin p (List.mem_append_left _ hp)
  refine⟨c.at k e (.inr (.inr ⟨p.2,hp⟩)) fun hm=>?_,n,ne,nf,d⟩
  rcases List.mem_cons.mp (I.stkSub _ hm)with e' | hm
  ·exact ne e'
  ·exact nf hm
theorem Inv.fly{P:Program}{w:World}{e:Value}{s':Shared}(I:Inv X pins σ H s)(hP:P=X.prog)(hw:w=X.w)(h:CXe P w X.stack H s E e s'):∃x cls H',e= .ref x/\Fly X H' x cls s'/\E cls none H':=by
 subst hP hw
 obtain⟨x,cls,a0,H',B,rfl,os,bare,un,hok,⟨f1,f2,f3,f4⟩,cov,q⟩:=h
 refine⟨x,cls,H',rfl,⟨⟨pins,σ,I.call' (ch:=[]) os un hok bare fun b z=>absurd z (by simp)⟩,B,f1,f2,f3,.inl ⟨a0,.none,f4⟩,fun b ob e z hn=>cov b ob e ?_ hn⟩,q⟩
 rcases z with z | z | ⟨o,z⟩
 ·exact .inl z
 ·obtain⟨o',e'⟩:=I.cov b (.inr (.inl z))
  exact .inr (.inl ⟨by rw[e'];rfl,by simp⟩)
 ·obtain⟨o',e'⟩:=I.cov b (.inr (.inr ⟨o,z⟩))
  exact .inr (.inl ⟨by rw[e'];rfl,by simp⟩)
theorem Wants.passes(h:Wants X E):zGq (CXe X.prog X.w) X E:=fun pins σ H s e s' I q=>by
 obtain⟨x,cls,H',rfl,f,q⟩:=I.fly rfl rfl q
 exact h H' x cls s' f q
end
theorem zR3{P:Program}{w:World}{K:PySem.W.Frag}{mg:Str->Option Value}{base:Heap}{N:List Str}{qual:Str}{scope:Scope}{f:Addr}{cd:Value}{A:Around}{outer:List Env}{s:Shared}{H:Hp}{E:XK}:
  Wants (zL8 (CXe P w) P w K mg base N qual scope f cd A outer s H E) E:=by
 intro H' x cls s' ⟨⟨pins,σ,I⟩,B,k1,k2,k3,k4,cov⟩ q
 show wpAny _ _ (leaving (envOfC qual scope s.heap.objs.size f cd) (.ref x)) _ _ s'
 refine zOm (outer:=outer) I.ok.frames rfl k1 k2 k3 k4 fun h' a0 fl sm=>?_
 have J:=I.land cov fl.1 sm
 refine⟨x,cls,a0,H',B,rfl,J.os,J.bare,J.base,J.hok,fl,fun b ob e z hn=>?_,q⟩
 have hb:b∉frs (envOfC qual scope s.heap.objs.size f cd::outer):=fun m=>by
  have m2:=J.stkSub b m
  rcases List.mem_cons.mp m2 with m2 | m2
  ·rcases z with z | ⟨z,_⟩ | ⟨_,z⟩
   ·rw[m2,J.free]at z;cases z
   ·obtain⟨o,e2⟩:=Option.isSome_iff_exists.mp z
    rw[m2]at e2
    exact absurd (Nat.lt_of_lt_of_le (Heap.lt_size e2) I.ok.above) (Nat.lt_irrefl _)
   ·cases z
  ·exact hn m2
 have z':(H' b).isSome=true\/((s.heap.get? b).isSome=true/\b∉([]:List Addr))\/∃o,(b,o)∈([]:List (Addr×Obj)):=z
 exact(cov.step fl.1 I.cov) b ob e z' hb
noncomputable def zS9(C:Addr)(E:XK):TS:=fun _ _ H=>E (.ref C) none H
theorem zUj{K:PySem.W.Frag}{h:Heap}{C:Addr}{bmB:List Value}{newId:String}(KX:K.In h)(q:PySem.W.excIn K C bmB newId=true):
  ∃bm N nm q bs hdct sn sub ab col dd k0 k1 k2 k3 k5 mN,h.get? C=some (excClassObj nm q C N bs bm hdct sn sub ab col dd k0 k1 k2 k3 k5 newId)/\h.Ns N mN/\mN "__init__" =none/\OwnTail h bmB bm:=by
 unfold PySem.W.excIn at q
 split at q
 ·rename_i dd cd sl ho
  split at q
  ·rename_i C' bm k0 k1 k2 k3 n k5 hm hs
   simp only [Bool.and_eq_true,beq_iff_eq,Bool.not_eq_true']at q
   obtain⟨⟨⟨⟨⟨rfl,rfl⟩,hdel⟩,ht⟩,hok⟩,hni⟩:=q
   obtain⟨nm,bs,mro,ns,qn,hd,sn,sub,ab,col,del⟩:=cd
   dsimp only at hm hdel hok hni
   subst hm hdel
   have hsl:sl= #[k0,k1,k2,k3,some (.builtin n),k5]:=by
    obtain⟨l⟩:=sl
    simp only at hs
    rw[hs]
   subst hsl
   exact⟨bm,ns,nm,qn,bs,hd,sn,sub,ab,col,dd,k0,k1,k2,k3,k5,_,KX _ _ ho,.of_isNs (PySem.W.isNs_of_in KX hok),PySem.W.nsMap_none_of_in KX hok hni,PySem.W.tail_of_in KX ht⟩
  ·cases q
 ·cases q
section
variable {X:Cx} {x:Str} {C:Addr} {np cpos pos:Pos} {E:XK} {B newId initId:String} {bm:List Value}
theorem zDg(hw:Wants X E)(hc:X.calm=true)(hg:Gl X x)(hm:X.mg x=some (.ref C))(FB:ExcBaseFacts B newId initId bm)(q:PySem.W.excIn X.K C bm newId=true)(hd:(x == ("__debug__":Str))=false:=by decide):
  PS X (.Raise (some (.Call (.Name x np) [] [] cpos)) none pos) (zS9 C E):=by
 intro pins s σ H D I h
 obtain⟨tl,N,nm,qn,bs,hdct,sn,sub,ab,col,dd,k0,k1,k2,k3,k5,mN,hC,hN,hni,T⟩:=zUj I.kIn q
 refine wpAny_Raise_call_subT (C:=C) (nm:=nm) (q:=qn) (N:=N) (bs:=bs) (bm:=tl) (hdct:=hdct) (sn:=sn) (sub:=sub) (ab:=ab) (col:=col) (dd:=dd) (k0:=k0) (k1:=k1) (k2:=k2) (k3:=k3) (k5:=k5)
  FB (mN:=mN) (T.hasType FB.hasBase) (I.ok.hd hc) rfl hni (zF8 I hg hm ⟨rfl,?_⟩ hd)
 refine evalArgs_empty ⟨rfl,Nat.zero_le _,hC,hN,T,fun h' e mx=>?_⟩
 have I':Inv X pins σ H {s with heap:=h'}:=I.kept (t':=s.toks) mx.keeps
 obtain⟨t,he,_,_⟩:=mx.there
 refine hw H e (.ref C) _ ⟨⟨pins,σ,I'⟩,PySem.W.hideAll s.heap (frs X.stack),fun b o z=>mx.keeps b o (PySem.W.of_hideAll _ z),?_,?_,.inr ⟨_,_,_,he,rfl,rfl,rfl,rfl⟩,fun b ob e1 z hn=>?_⟩ h
 ·cases e2:(PySem.W.hideAll s.heap (frs X.stack)).get? e with
  | none=>rfl
  | some o=>
   have:=PySem.W.of_hideAll _ e2
   rw[mx.new]at this
   cases this
 ·have hl:=PySem.W.funFrames_hide (as:=frs X.stack) I.stack fun env he a ha=>List.mem_filterMap.mpr ⟨env,he,ha⟩
  exact hl.of_keeps fun b o hb _=>⟨o,mx.keeps b o hb,rfl⟩
 ·obtain⟨o,e2⟩:=I.cov b z
  have e3:=mx.keeps b o e2
  have e1:h'.get? b=some ob:=e1
  rw[e3]at e1
  cases e1
  exact PySem.W.hideAll_get _ e2 hn
end
end L2
namespace L2
open PySem PySem.Spec PyProof.Rows
noncomputable abbrev Cx.tried(X:Cx)(pn:List (Addr×Obj))(xe:Value->Shared->Prop):Cx:={X with pn:=pn,xe:=xe}
noncomputable abbrev Cx.suite(X:Cx)(e:Value):Cx:={X with A:=X.A.mark (some e),calm:=false,xe:=fun _ _=>False}
section
variable {X:Cx} {pins p2 pn:List (Addr×Obj)} {σ:St} {H:Hp} {s:Shared} {xe:Value->Shared->Prop} {D:zMe} {f:Flow} {e:Value}
theorem Cx.Ok.tried(ok:X.Ok):(X.tried pn xe).Ok:=⟨ok.mod,ok.kind,ok.glob,ok.blt,ok.above,ok.inj,ok.has,ok.cab,ok.hd,ok.frames,ok.stk,ok.exf,ok.bs,ok.bsz,ok.noex,ok.exfs,ok.funs,ok.frf⟩
theorem Cx.Ok.untried(ok:(X.tried pn xe).Ok):X.Ok:=⟨ok.mod,ok.kind,ok.glob,ok.blt,ok.above,ok.inj,ok.has,ok.cab,ok.hd,ok.frames,ok.stk,ok.exf,ok.bs,ok.bsz,ok.noex,ok.exfs,ok.funs,ok.frf⟩
theorem Inv.tried(I:Inv X pins σ H s):Inv (X.tried (X.pn++pins) xe) [] σ H s:=
 ⟨I.ok.tried,I.os,I.bare,I.base,I.loc,I.cell,I.free,I.freeC,fun p hp=>I.pin p (by simpa using hp),I.hok,I.len⟩
theorem Inv.untried(I:Inv (X.tried (X.pn++pins) xe) p2 σ H s):Inv X pins σ H s:=
 ⟨I.ok.untried,I.os,I.bare,I.base,I.loc,I.cell,I.free,I.freeC,fun p hp=>I.pin p (List.mem_append_left _ hp),I.hok,I.len⟩
theorem SP.untried(h:SP (X.tried (X.pn++pins) xe) p2 D f s):SP X pins D f s:=by
 cases f with
 | next=>obtain⟨σ',H',I,q⟩:=h;exact⟨σ',H',I.untried,q⟩
 | brk=>obtain⟨σ',H',I,q⟩:=h;exact⟨σ',H',I.untried,q⟩
 | cont=>obtain⟨σ',H',I,q⟩:=h;exact⟨σ',H',I.untried,q⟩
 | ret u=>obtain⟨v,σ',H',I,r,q⟩:=h;exact⟨v,σ',H',I.untried,r,q⟩
theorem Inv.suite(I:Inv X pins σ H s)(e:Value):Inv (X.suite e) pins σ H s:=
 ⟨⟨I.ok.mod,I.ok.kind,I.ok.glob,I.ok.blt,I.ok.above,I.ok.inj,I.ok.has,I.ok.cab,(fun h=>nomatch h),I.ok.frames,I.ok.stk,I.ok.exf,I.ok.bs,I.ok.bsz,I.ok.noex,I.ok.exfs,I.ok.funs,I.ok.frf⟩,I.os,I.bare,I.base,I.loc,I.cell,I.free,I.freeC,I.pin,I.hok,I.len⟩
theorem Inv.unsuite(ok:X.Ok)(I:Inv (X.suite e) pins σ H s):Inv X pins σ H s:=
 ⟨ok,I.os,I.bare,I.base,I.loc,I.cell,I.free,I.freeC,I.pin,I.hok,I.len⟩
theorem SP.unsuite(ok:X.Ok)(h:SP (X.suite e) pins D f s):SP X pins D f s:=by
 cases f with
 | next=>obtain⟨σ',H',I,q⟩:=h;exact⟨σ',H',I.unsuite ok,q⟩
 | brk=>obtain⟨σ',H',I,q⟩:=h;exact⟨σ',H',I.unsuite ok,q⟩
 | cont=>obtain⟨σ',H',I,q⟩:=h;exact⟨σ',H',I.unsuite ok,q⟩
 | ret u=>obtain⟨v,σ',H',I,r,q⟩:=h;exact⟨v,σ',H',I.unsuite ok,r,q⟩
end
noncomputable def zEi(K:PySem.W.Frag)(C:Addr):Bool:=match K.lookup C with
 | some ⟨.type "type",_,.cls cd,sl⟩=>(match cd.mro,sl.toList with
  | .ref C'::bm,[_,_,_,_,some (.builtin _),_]=>C' == C&&!cd.hasDel&&bm.contains (.type "BaseException") &&bm.all (fun v=>match v with | .ref _=>false | _=>true)
  | _,_=>false)
 | _=>false
theorem zNi{K:PySem.W.Frag}{h:Heap}{C:Addr}(KX:K.In h)(q:zEi K C=true):
  ∃nm qn N bs bm hdct sn sub ab col dd k0 k1 k2 k3 k5 newId,h.get? C=some (excClassObj nm qn C N bs bm hdct sn sub ab col dd k0 k1 k2 k3 k5 newId)/\bm.contains (.type "BaseException")=true/\∀a,Value.ref a∉bm:=by
 unfold zEi at q
 split at q
 ·rename_i dd cd sl ho
  split at q
  ·rename_i C' bm k0 k1 k2 k3 n k5 hm hs
   simp only [Bool.and_eq_true,beq_iff_eq,Bool.not_eq_true']at q
   obtain⟨⟨⟨rfl,hdel⟩,hb⟩,ht⟩:=q
   obtain⟨nm,bs,mro,ns,qn,hd,sn,sub,ab,col,del⟩:=cd
   dsimp only at hm hdel
   subst hm hdel
   have hsl:sl= #[k0,k1,k2,k3,some (.builtin n),k5]:=by
    obtain⟨l⟩:=sl
    simp only at hs
    rw[hs]
   subst hsl
   refine⟨nm,qn,ns,bs,bm,hd,sn,sub,ab,col,dd,k0,k1,k2,k3,k5,n,KX _ _ ho,hb,fun a m=>?_⟩
   have:=List.all_eq_true.mp ht _ m
   simp at this
  ·cases q
 ·cases q
theorem zIj{M:Model}{A:Around}{E:Value->Shared->Prop}{s:Shared}{K:PySem.W.Frag}{C C' e:Addr}{oe:Obj}{Q:Bool->Shared->Prop}(KX:K.In s.heap)(q:zEi K C=true)(q':zEi K C'=true)
  (he:s.heap.get? e=some oe) (hcls:oe.cls= .ref C') (hq:Q (decide (C'=C)) s):wpAny M A (excMatches (.ref e) (.ref C)) Q E s:=by
 obtain⟨nm,qn,N,bs,bm,hdct,sn,sub,ab,col,dd,k0,k1,k2,k3,k5,newId,hC,hb,hr⟩:=zNi KX q
 obtain⟨nm',qn',N',bs',bm',hdct',sn',sub',ab',col',dd',k0',k1',k2',k3',k5',newId',hC',hb',hr'⟩:=zNi KX q'
 obtain⟨h,g,d,t,os⟩:=s
 have hcB:(Value.ref C::bm).contains (.type "BaseException")=true:=by rw[List.contains_cons,hb,Bool.or_true]
 have hcC:(Value.ref C'::bm').contains (.ref C)=decide (C'=C):=by
  rw[List.contains_cons]
  have z:bm'.contains (Value.ref C)=false:=by
   rw[Bool.eq_false_iff]
   exact fun m=>hr' C (List.contains_iff_mem.mp m)
  rw[z,Bool.or_false]
  by_cases e:C'=C
  ·subst e;simp
  ·rw[decide_eq_false e]
   exact beq_eq_false_iff_ne.mpr fun z=>e (Value.ref.inj z).symm
 have f:=tc_notTuple
 unfold excMatches
 repeat (first | (with_reducible refine wpAny_loadPart_at he ?_;rw[hcls]) | with_reducible refine wpAny_loadPart_at hC ?_ | (with_reducible refine wpAny_isSubtype_exc hC ?_;rw[hcB]) | (with_reducible refine wpAny_isSubtype_exc hC' ?_;rw[hcC]) | wp_step)
 by_cases e:C'=C
 ·rw[decide_eq_true e]at hq ⊢
  wp_walk
  exact hq
 ·rw[decide_eq_false e]at hq ⊢
  wp_walk
  exact hq
inductive PHs(X:Cx):List ExceptHandler->List (Addr×TS)->Prop
 | nil:PHs X [] []
 | cons {x:Str} {np pos:Pos} {b:Stmt} {suite:List Stmt} {C:Addr} {t:TS} {hs:List ExceptHandler} {ts:List (Addr×TS)}:Gl X x->X.mg x=some (.ref C)->zEi X.K C=true->(x == ("__debug__":Str))=false->
   (∀e,PSs (X.suite e) (b::suite) t)->PHs X hs ts->PHs X (.ExceptHandler (some (.Name x np)) none (b::suite) pos::hs) ((C,t)::ts)
noncomputable def hit(ts:List (Addr×TS))(C:Addr)(D:zMe)(σ:St)(H:Hp):Prop:=match ts with
 | []=>False
 | (C0,t)::r=>if C=C0 then t D σ H else hit r C D σ H
theorem zLi{X:Cx}{pins:List (Addr×Obj)}{σ:St}{H:Hp}{D:zMe}{C x:Addr}{a0:Value}{B:Heap}{xe:Value->Shared->Prop}:∀{hs:List ExceptHandler} {ts:List (Addr×TS)} {s:Shared},PHs X hs ts->zEi X.K C=true->hit ts C D σ H->
  Inv (X.tried (X.pn++pins) xe) [] σ H s->Heap.FlyingW B X.stack x (.ref C) a0 s.heap->Covers B s.heap X.s_0.heap H (X.pn++pins) X.ex (frs X.stack)->
  wpAny (model X.prog X.w) X.A (handleBy (.ref x) X.env hs) (SP X pins D) X.xe s
 | [],[],s,_,_,hh,_,_,_=>hh.elim
 | _,_,s,.cons (C:=C0) (t:=t) hg hm hf hd hsu hr,hC,hh,I,fl,cov=>by
  have IX:Inv X pins σ H s:=I.untried
  refine wpAny_handleBy_cons (codeAny_handlers_test (zF8 (X:=X.suite (.ref x)) (IX.suite _) hg hm ?_ hd)) (by intro q;cases q)
  obtain⟨ob,hob,hobc⟩:=fl.there
  refine zIj IX.kIn hf hC hob hobc ?_
  unfold hit at hh
  by_cases e:C=C0
  ·rw[if_pos e]at hh
   rw[decide_eq_true e]
   refine codeAny_handlers_suite ?_
   refine lands_againW fl fun h' fl' sm=>?_
   have J:Inv (X.tried (X.pn++pins) xe) [] σ H {s with heap:=h'}:=I.land cov fl'.1 sm
   have JX:Inv X pins σ H {s with heap:=h'}:=J.untried
   refine wpAny_mono (hsu (.ref x) pins _ σ H D (JX.suite _) hh) (fun f s2 q=>?_) fun _ _ z=>z.elim
   exact q.unsuite IX.ok
  ·rw[if_neg e]at hh
   rw[decide_eq_false e]
   exact zLi hr hC hh I fl cov
noncomputable def yCo(K:PySem.W.Frag)(E:XK)(tb:TS)(ts:List (Addr×TS)):TS:=fun D σ H=>(∀cls H' σ',E cls none H'->∃C,cls= .ref C/\zEi K C=true/\hit ts C D σ' H')/\tb D σ H
theorem zV6{X:Cx}{body:List Stmt}{h0:ExceptHandler}{hs:List ExceptHandler}{ts:List (Addr×TS)}{pos:Pos}{E:XK}{tb:TS}(hf:X.env.frame=some X.env.locals)(hst:X.stack=X.env::X.outer)
  (hb:∀(pn:List (Addr×Obj)) (xe:Value->Shared->Prop),Wants (X.tried pn xe) E->PSs (X.tried pn xe) body tb) (hh:PHs X (h0::hs) ts):PS X (.Try body (h0::hs) [] [] pos) (yCo X.K E tb ts):=by
 intro pins s σ H D I ⟨hE,h⟩
 refine wpAny_Try_except ?_
 refine wpAny_mono (hb (X.pn++pins) _ ?w [] s σ H D I.tried h) (fun f s1 q=>?_) fun e s1 z=>z
 case w=>
  intro H' x cls s1 ⟨⟨p2,σ',J⟩,B,k1,k2,k3,k4,cov⟩ q
  obtain⟨C,rfl,hC,hit'⟩:=hE cls H' σ' q
  have k3':s1.heap.FunFrames B X.stack:=k3
  show wpAny (model X.prog X.w) X.A (noteFrame (.ref x) X.env) _ _ s1
  rw[hst]at k3'
  refine zLh (L:=X.env.locals) (outer:=X.outer) (by rw[<-hst];exact J.ok.frames) hf k1 k2 k3' k4 fun h1 a0 hd1 sm1=>?_
  refine wpAny_landsW hd1 fun h2 fl sm2=>?_
  have sm:=sm1.trans sm2
  have J2:=J.land cov fl.1 sm
  have fl':Heap.FlyingW B X.stack x (.ref C) a0 h2:=by rw[hst];exact fl
  have cov2:=cov.step fl.1 J.cov
  exact zLi (s:={s1 with heap:=h2}) hh hC hit' J2 fl' cov2
 have q':=SP.untried q
 cases f with
 | next=>exact wpAny_execs_nil q'
 | brk=>exact q'
 | cont=>exact q'
 | ret u=>exact q'
theorem Fun.okE{P:Program}{w:World}{K:PySem.W.Frag}{mg:Str->Option Value}{base:Heap}{x qual:Str}{st:Stmt}{f:Addr}{fd:FuncData}{N ps:List Str}{k:Nat}{sp:Sp}(F:Fun K x qual st f fd)(S:zAg N ps (zAc st))(len:∀vs H Q E,sp vs H Q E->vs.length=ps.length)
  (hbody:∀(cdv:Value) (A:Around) (outer:List Env) (s:Shared) (H:Hp) (vs:List V) (Q:VK) (E:XK),Room k (A.deeper (envOfC qual (zAc st) s.heap.objs.size f cdv))->Wants (zL8 (CXe P w) P w K mg base N qual (zAc st) f cdv A outer s H E) E->sp vs H Q E->
   ∃t,PSs (zL8 (CXe P w) P w K mg base N qual (zAc st) f cdv A outer s H E) (zCd st) t/\t {nx:=fun _ H'=>Q .non H',rt:=Q} (start N vs) H):FnOk P w K mg base (CXe P w) (k+1) f fd ps sp:=by
 obtain⟨oc,od,kV,doc,pm,an,cdv,ct,osl,rfl,lk,hcd⟩:=F.ex
 exact zVs lk hcd S len fun A outer s H vs Q E hr hsp=>hbody cdv A outer s H vs Q E hr zR3 hsp
theorem Fun.ok0{P:Program}{w:World}{K:PySem.W.Frag}{mg:Str->Option Value}{base:Heap}{x qual:Str}{st:Stmt}{f:Addr}{fd:FuncData}{N ps:List Str}{k:Nat}{sp:Sp}(F:Fun K x qual st f fd)(S:zAg N ps (zAc st))(len:∀vs H Q E,sp vs H Q E->vs.length=ps.length)
  (hbody:∀(cdv:Value) (A:Around) (outer:List Env) (s:Shared) (H:Hp) (vs:List V) (Q:VK) (E:XK),Room k (A.deeper (envOfC qual (zAc st) s.heap.objs.size f cdv))->sp vs H Q E->
   ∃t,PSs (zL8 (CXe P w) P w K mg base N qual (zAc st) f cdv A outer s H E).nox (zCd st) t/\t {nx:=fun _ H'=>Q .non H',rt:=Q} (start N vs) H):FnOk P w K mg base (CXe P w) (k+1) f fd ps sp:=by
 obtain⟨oc,od,kV,doc,pm,an,cdv,ct,osl,rfl,lk,hcd⟩:=F.ex
 refine zVs lk hcd S len fun A outer s H vs Q E hr hsp=>?_
 obtain⟨t,h,q⟩:=hbody cdv A outer s H vs Q E hr hsp
 exact⟨t,h.nox,q⟩
theorem zAm{X:Cx}:Wants X E0:=fun _ _ _ _ _ h=>h.elim
structure Callee(P:Program)(w:World)(K:PySem.W.Frag)(mg:Str->Option Value)(base:Heap)(k:Nat)(f:Addr)(ps:List Str)(sp:Sp):Prop where
 ok:∃fd,FnOk P w K mg base (CXe P w) k f fd ps sp/\Binds K fd ps []
 kp:PySem.W.keepIn K (.ref f)=true
noncomputable def zNj(P:Program)(w:World)(K:PySem.W.Frag)(mg:Str->Option Value)(base:Heap)(k:Nat)(E:XK)(i:Nat)(t:TA):TE:=fun σ H Q=>∃f ps sp,σ[i]? =some (some (.ref f))/\Callee P w K mg base k f ps sp/\t σ H fun vs H1=>sp vs H1 Q E
theorem zEs{X:Cx}{k i:Nat}{x:Str}{E:XK}{e:Expr}{es:List Expr}{t:TA}{p pos:Pos}(hN:X.N[i]? =some x)(hv:Vis X.env.scope x)(hr:Room k X.A)(hx:Wants X E)(ha:PA X (e::es) t)
  (hdb:(x == ("__debug__":Str))=false:=by decide) (hcd:(x == ("__classdict__":Str))=false:=by decide) (he:starEach (e::es) X.env=(false,eval e X.env)::starEach es X.env:=by rfl) (hpl:(backTo pos (starEach es X.env)).any (·.1)=false:=by rfl):
  PE X (.Call (.Name x p) (e::es) [] pos) (zNj X.prog X.w X.K X.mg X.base k E i t):=by
 intro pins s σ H Q I h
 obtain⟨f,ps,sp,hi,⟨⟨fd,F,hb⟩,hk⟩,h⟩:=h
 refine wpAny_Call_Name_kw ?_
 refine thn (zSz hN hv hdb hcd pins s σ H (fun v H1=>v= .ref f/\H1=H) I ⟨_,hi,rfl,rfl⟩) fun u s1 ⟨v,H1,I1,r,e1,e2⟩=>?_
 subst e1 e2
 obtain rfl:u=Value.ref f:=r
 refine PySem.W.callWith_K (h₀:=X.base) I.ok.mod.kin hk (thn (ha pos pins s1 σ H1 _ I1 h) fun us s2 ⟨vs,H2,I2,r2,q⟩=>⟨I2.kIn,?_⟩) he hpl
 have q:sp (vs++ []) H2 Q E:=by rw[List.append_nil];exact q
 exact zM5 F hr hb .nil hx.passes I2 r2 q
end L2
namespace L2
open PySem PySem.Spec PyProof.Rows
theorem zH1{a b:Env}(h:a.frame=b.frame)(e:Value):noteFrame e a=noteFrame e b:=by
 unfold noteFrame PySem.frameOf
 rw[h]
theorem zV7{X:Cx}{pins:List (Addr×Obj)}{σ:St}{H3:Hp}{s3:Shared}{E:XK}{scope:Scope}{ce:Env}{fp:List Addr}{pn:List (Addr×Obj)}{use:Option (Value->Sem Unit)}{Qf:Value->Shared->Prop}{acc:Value}
  (hw:Wants X E) (hst:X.stack=X.env::X.outer) (hf:X.env.frame=some X.env.locals) (I3:Inv X pins σ H3 s3) (f3:∀b∈fp,zL7 X pins H3 b/\b < s3.heap.objs.size) (hce:ce.frame=X.env.frame) (cL:ce.locals=s3.heap.objs.size):
  Wants ((X.blk s3 H3 scope ce fp).tried pn (notedBy (model X.prog X.w) X.A ce fun e s'=>compPost (model X.prog X.w) X.A X.xe use Qf acc s3.heap.objs.size (.error e) s')) E:=by
 intro H' x cls s1 ⟨⟨p2,σ',J⟩,B,k1,k2,k3,k4,cov⟩ q
 show wpAny (model X.prog X.w) X.A (noteFrame (.ref x) ce) _ _ s1
 rw[zH1 hce]
 have k3':s1.heap.FunFrames B (X.env::X.outer):=by rw[<-hst];exact k3
 have fr:X.A.frames=some (X.env::X.outer):=by rw[<-hst];exact J.ok.frames
 refine zLh (L:=X.env.locals) (outer:=X.outer) fr hf k1 k2 k3' k4 fun h1 a0 hd1 sm1=>?_
 have J1:=J.land cov hd1.1 sm1
 have cov1:=cov.step hd1.1 J.cov
 obtain⟨b1,b2,b3,oe,vs,T,oT,ts,he,hcl,hd,hv1,hnT,hTe,hT,hdT,hv3⟩:=hd1
 obtain⟨m,hn,_⟩:=J1.loc
 have hn:h1.Ns ce.locals m:=hn
 have fC:H' ce.locals=none:=J1.free
 rw[cL]at hn fC
 obtain⟨oC,es,ep,hC,hdC,_⟩:=id hn
 have xC:x≠s3.heap.objs.size:=fun z=>by rw[z,hC]at he;cases he;rw[hdC]at hd;cases hd
 have TC:T≠s3.heap.objs.size:=fun z=>by rw[z,hC]at hT;cases hT;rw[hdC]at hdT;cases hdT
 refine⟨m,hn,fun h2 sb cenv _=>?_⟩
 have he2:h2.get? x=some oe:=(sb.2 x xC).trans he
 have hT2:h2.get? T=some oT:=(sb.2 T TC).trans hT
 have hsz:3 < ts.size:=(Array.getElem?_eq_some_iff.mp hv3).1
 unfold PySem.passOn
 refine wpAny_bind (wpAny_field he2 hd hv1 ?_)
 rw[if_neg (show¬((Value.ref T == Value.none)=true)from by simp)]
 refine wpAny_bind ?_
 unfold setFlight
 refine wpAny_bind (wpAny_field he2 hd hv1 ?_)
 rw[if_pos (show(Value.ref T != Value.none)=true from by simp)]
 refine wpAny_setField hT2 hdT hsz (wpAny_throw ?_)
 generalize hfl:(cenv.frame.elim Value.none fun f=>rawInt f)=fl
 have oth:∀b,b≠T->b≠s3.heap.objs.size->(h2.update T (Obj.mapFields (·.setIfInBounds 3 fl))).get? b=h1.get? b:=fun b hb hb2=>(Heap.get?_update_other _ _ (Ne.symm hb)).trans (sb.2 b hb2)
 have nT:∀b,((H' b).isSome=true\/((s3.heap.get? b).isSome=true/\b∉fp)\/∃o,(b,o)∈pn)->b∉frs X.stack->b≠T:=fun b z hb e=>by
  obtain⟨ob,eb⟩:=J1.cov b z
  have:=cov1 b ob eb z hb
  rw[e,hnT]at this
  cases this
 have frT:∀b∈frs X.stack,b≠T:=fun b hb e=>by
  rw[hst]at hb
  obtain⟨_,o,ho,hd'⟩:=b3.mem hb
  rw[e,hT]at ho
  cases ho
  exact hd' _ hdT
 have zCg:∀b o,s3.heap.get? b=some o->b≠s3.heap.objs.size:=fun b o e=>Nat.ne_of_lt (Heap.lt_size e)
 have U1:Un (frs X.stack) fp H3 H' s3.heap h1:=J1.base
 have U:Un (frs X.stack) fp H3 H' s3.heap (h2.update T (Obj.mapFields (·.setIfInBounds 3 fl))):=by
  refine⟨fun b o e n hb hx=>?_,fun b o e n hb hx=>?_,U1.free,fun b o e hx=>?_,U1.tups,U1.frzs,U1.tbls⟩
  ·rw[oth b (nT b (.inr (.inl ⟨by rw[e];rfl,hx⟩)) hb) (zCg b o e)]
   exact U1.keep b o e n hb hx
  ·rw[oth b (frT b hb) (zCg b o e)]
   exact U1.slot b o e n hb hx
  ·by_cases hb:b∈frs X.stack
   ·rw[oth b (frT b hb) (zCg b o e)]
    exact U1.there b o e hx
   ·rw[oth b (nT b (.inr (.inl ⟨by rw[e];rfl,hx⟩)) hb) (zCg b o e)]
    exact U1.there b o e hx
 have stk:∀b∈frs X.stack,H' b=none:=J1.stkFree
 have tr:∀b,(H' b).isSome=true->b≠T/\b≠s3.heap.objs.size:=fun b hb=>by
  refine⟨nT b (.inl hb) fun m=>?_,fun e=>?_⟩
  ·rw[stk b m]at hb;cases hb
  ·rw[e,fC]at hb;cases hb
 have ok':HOk X.prog X.w H' (h2.update T (Obj.mapFields (·.setIfInBounds 3 fl))):=fun a o e=>by
  have J1h:HOk X.prog X.w H' h1:=J1.hok
  refine(J1h a o e).stay (fun b u hb w=>?_) (fun _ w=>w) fun _ _ w=>w
  have tb:(H' b).isSome=true:=by
   rcases hb with rfl | hb
   ·rw[e];rfl
   ·rw[hb];rfl
  rw[oth b (tr b tb).1 (tr b tb).2]
  exact w
 have IX:Inv X pins σ H' {s1 with heap:=h2.update T (Obj.mapFields (·.setIfInBounds 3 fl))}:=
  I3.call' (ch:=fp) J1.os U ok' J1.bare fun b hb=>⟨(f3 b hb).1.2.2.2.1,(f3 b hb).1.2.1,(f3 b hb).1.2.2.2.2.1,(f3 b hb).1.2.2.2.2.2⟩
 have old:∀b,((H' b).isSome=true\/((X.s_0.heap.get? b).isSome=true/\b∉X.ex)\/∃o,(b,o)∈X.pn)->(H' b).isSome=true\/((s3.heap.get? b).isSome=true/\b∉fp)\/∃o,(b,o)∈pn:=fun b z=>by
  rcases z with z | ⟨z,hx⟩ | ⟨o,z⟩
  ·exact .inl z
  ·obtain⟨o,e⟩:=Option.isSome_iff_exists.mp z
   obtain⟨o',e'⟩:=I3.base.there b o e hx
   refine .inr (.inl ⟨by rw[e'];rfl,fun m=>?_⟩)
   rcases(f3 b m).1.2.2.2.1 with y | y
   ·exact hx y
   ·exact absurd (Nat.lt_of_lt_of_le (Heap.lt_size e) y) (Nat.lt_irrefl _)
  ·have e':=(I3.pin (b,o) (List.mem_append_left _ z)).1
   exact .inr (.inl ⟨by rw[e'];rfl,fun m=>(f3 b m).1.2.2.2.2.2 (b,o) (List.mem_append_left _ z) rfl⟩)
 have notC:∀b,((H' b).isSome=true\/((X.s_0.heap.get? b).isSome=true/\b∉X.ex)\/∃o,(b,o)∈X.pn)->b≠s3.heap.objs.size:=fun b z e=>by
  rcases z with z | ⟨z,hx⟩ | ⟨o,z⟩
  ·exact(tr b z).2 e
  ·obtain⟨o,e1⟩:=Option.isSome_iff_exists.mp z
   obtain⟨o',e'⟩:=I3.base.there b o e1 hx
   exact zCg b o' e' e
  ·exact zCg b o (I3.pin (b,o) (List.mem_append_left _ z)).1 e
 refine hw H' x cls _ ⟨⟨pins,σ,IX⟩,PySem.W.hideAll B [s3.heap.objs.size],fun b o e=>?_,?_,?_,.inl ⟨a0,fl,oe,vs,T,_,_,?_,hcl,hd,hv1,?_,hTe,Heap.get?_update_self _ hT2 (Obj.isFreed_of_fields (Obj.data_mapFields hdT _)),Obj.data_mapFields hdT _,by simp[hsz]⟩,fun b ob e z hn=>?_⟩ q
 ·have e1:=PySem.W.of_hideAll _ e
  have hb:b≠s3.heap.objs.size:=fun z=>by
   rw[z,PySem.W.hideAll_none _ (List.mem_singleton.mpr rfl)]at e
   cases e
  show(h2.update T (Obj.mapFields (·.setIfInBounds 3 fl))).get? b=some o
  rw[oth b (fun z=>by rw[z,hnT]at e1;cases e1) hb]
  exact b1 b o e1
 ·cases e2:(PySem.W.hideAll B [s3.heap.objs.size]).get? x with
  | none=>rfl
  | some o=>
   have:=PySem.W.of_hideAll _ e2
   rw[b2]at this
   cases this
 ·show(h2.update T (Obj.mapFields (·.setIfInBounds 3 fl))).FunFrames (PySem.W.hideAll B [s3.heap.objs.size]) X.stack
  rw[hst]
  have all:∀l:List Env,(∀b∈frs l,b∈frs X.stack)->h1.FunFrames B l->(h2.update T (Obj.mapFields (·.setIfInBounds 3 fl))).FunFrames (PySem.W.hideAll B [s3.heap.objs.size]) l:=by
   intro l
   induction l with
   | nil=>intro _ _;trivial
   | cons env r ih=>
    intro hs ⟨hk,⟨L,o,hfL,hnL,ho,hdL⟩,hr⟩
    have hL:L∈frs X.stack:=hs L (by unfold frs;rw[List.filterMap_cons,hfL];exact List.mem_cons_self)
    have LC:L≠s3.heap.objs.size:=fun z=>by
     rw[hst]at hL
     have hL2:L∈frs X.stack:=by rw[hst];exact hL
     obtain⟨_,o',ho',_⟩:=(I3.stack).mem hL2
     exact zCg L o' ho' z
    refine⟨hk,⟨L,o,hfL,?_,?_,hdL⟩,ih (fun b hb=>hs b (by unfold frs;rw[List.filterMap_cons,hfL];exact List.mem_cons_of_mem _ hb)) hr⟩
    ·cases e2:(PySem.W.hideAll B [s3.heap.objs.size]).get? L with
     | none=>rfl
     | some o'=>
      have:=PySem.W.of_hideAll _ e2
      rw[hnL]at this
      cases this
    ·rw[oth L (frT L hL) LC]
     exact ho
  exact all _ (fun b hb=>by rw[hst];exact hb) b3
 ·show(h2.update T (Obj.mapFields (·.setIfInBounds 3 fl))).get? x=some oe
  rw[oth x (Ne.symm hTe) xC]
  exact he
 ·cases e2:(PySem.W.hideAll B [s3.heap.objs.size]).get? T with
  | none=>rfl
  | some o=>
   have:=PySem.W.of_hideAll _ e2
   rw[hnT]at this
   cases this
 ·have e:(h2.update T (Obj.mapFields (·.setIfInBounds 3 fl))).get? b=some ob:=e
  have z2:=old b z
  have hnC:=notC b z
  rw[oth b (nT b z2 hn) hnC]at e
  refine PySem.W.hideAll_get _ (cov1 b ob e z2 hn) fun m=>hnC (List.mem_singleton.mp m)
section
variable {X:Cx}
theorem zNk{pins:List (Addr×Obj)}{s:Shared}{σ:St}{H:Hp}{Q:VK}{elt tg iter:Expr}{ifs:List Expr}{scope:Scope}{own:List (Str×Nat)}{pos pos':Pos}{wi:TI}{g:TG}{tt:TT}{te:TE}{use:Option (Value->Sem Unit)}{Qf:Value->Shared->Prop}
  {E:XK} (hw:Wants X E) (hst:X.stack=X.env::X.outer) (hf:X.env.frame=some X.env.locals) (hc:X.calm=true) (hN:X.N.Nodup) (I:Inv X pins σ H s) (hi:PI X tg iter wi) (ok:zCf X.N X.env.scope scope own)
  (hg:∀(s:Shared) (H:Hp) (C:Addr) (cl:List (Str×Addr)) (fp:List Addr),PG (X.blk s H scope (compEnvC scope cl C X.env) fp) tg g) (ht:∀(s:Shared) (H:Hp) (C:Addr) (cl:List (Str×Addr)) (fp:List Addr),PTs (X.blk s H scope (compEnvC scope cl C X.env) fp) ifs tt)
  (he:∀(s:Shared) (H:Hp) (C:Addr) (cl:List (Str×Addr)) (fp:List Addr) (pn:List (Addr×Obj)) (xe:Value->Shared->Prop),Wants ((X.blk s H scope (compEnvC scope cl C X.env) fp).tried pn xe) E->PE ((X.blk s H scope (compEnvC scope cl C X.env) fp).tried pn xe) elt te) (hs:∀x,foldedSetIterable iter X.env x=pure x)
  (h:tLc wi g tt te (own.map (·.2)) σ H Q)
  (hRR:∀D C s' m H',Inv X pins σ H' s'->Q (.ref D) H'->s'.heap.Ns C m->zL7 X pins H' C->compPost (model X.prog X.w) X.A X.xe use Qf (.ref D) C (.ok .next) s'):
  wpAny (model X.prog X.w) X.A (comprehension (.ListComp elt [⟨tg,iter,ifs,0⟩] scope pos) scope X.env pos' (newList []) false (eval iter X.env) use) Qf X.xe s:=by
 have hfree:∀y∈scope.names,y.2= .free->∃c,X.env.cells.lookup y.1=some c:=fun y hy e=>by
  rcases ok.free y hy e with k | k
  ·exact I.ok.has _ (.inl k)
  ·exact I.ok.has _ (.inr k)
 refine wpAny_comprehension_free (use:=use) rfl hs (zI2 hfree) ok.kind (fun y hy e=>by rw[ok.uniq y hy,e])
  (thn (hi pins s σ H _ I h) fun xv s1 hx=>thn hx fun itv s2 h2=>?_)
 obtain⟨it,fp,tn,J,H2,e,I2,T,st2,f2,q⟩:=h2
 subst e
 refine wpAny_newObj_type (zHw ?_) (by show 0<=sizeLine;decide)
 generalize hD:s2.heap.objs.size=D
 have hDn:H2 D=none:=I2.hok.fresh (Nat.le_of_eq hD)
 obtain⟨W,⟨m0,w0⟩,turn⟩:=q D hDn
 generalize hs3:({s2 with heap:=s2.heap.push {cls:= .type "list",data:= .seq ([]:List Value).toArray}}:Shared)=s3
 have I3:Inv X pins σ (upd H2 D (.lst [])) s3:=by
  rw[<-hs3]
  refine I2.laid (t':=s2.toks) (fun b o e=>Heap.get?_push_of_some _ e) (Nat.le_of_eq hD) ⟨Nat.zero_le _,[],0,.nil,?_⟩
  rw[<-hD]
  exact Heap.get?_push_size _ rfl
 have h3:s3.heap=s2.heap.push {cls:= .type "list",data:= .seq ([]:List Value).toArray}:=by rw[<-hs3]
 have sz:∀b∈fp,b < s2.heap.objs.size:=fun b hb=>by
  obtain⟨o,e,_⟩:=T.obj _ _ st2 b hb
  exact Heap.lt_size e
 have f3:∀b∈fp,zL7 X pins (upd H2 D (.lst [])) b/\b < s3.heap.objs.size:=fun b hb=>by
  have hlt:=sz b hb
  refine⟨⟨?_,(f2 b hb).2⟩,by rw[h3,Heap.size_push];exact Nat.lt_succ_of_lt hlt⟩
  rw[zAj (by rw[<-hD];exact Nat.ne_of_lt hlt)]
  exact(f2 b hb).1
 have st3:tn 0 s3.heap:=T.keep _ _ _ st2 fun b _ o e=>by rw[h3];exact Heap.get?_push_of_some _ e
 have I4:=zHx I3 ok hN f3
 have pg:=hg s3 (upd H2 D (.lst [])) s3.heap.objs.size (cellsFrom (s3.heap.objs.size+1) scope.names (zBe X.env.cells scope.names [])) fp
 have pt:=ht s3 (upd H2 D (.lst [])) s3.heap.objs.size (cellsFrom (s3.heap.objs.size+1) scope.names (zBe X.env.cells scope.names [])) fp
 have pe:=he s3 (upd H2 D (.lst [])) s3.heap.objs.size (cellsFrom (s3.heap.objs.size+1) scope.names (zBe X.env.cells scope.names [])) fp
 show codeAny _ _ (.compStart (.ListComp elt [⟨tg,iter,ifs,0⟩] scope pos) 0 (.ref it) (.ref D) (compEnvC scope (cellsFrom (s3.heap.objs.size+1) scope.names (zBe X.env.cells scope.names [])) s3.heap.objs.size X.env)) (compPost (model X.prog X.w) X.A X.xe use Qf (.ref D) s3.heap.objs.size) {s3 with heap:=pushCells (s3.heap.push {cls:= .type "dict",data:= .dict #[]}) scope.names}
 have nfp:∀b∈fp,(upd H2 D (.lst [])) b=none:=fun b hb=>(f3 b hb).1.1
 generalize hce:compEnvC scope (cellsFrom (s3.heap.objs.size+1) scope.names (zBe X.env.cells scope.names [])) s3.heap.objs.size X.env=ce at I4 pg pt pe ⊢
 have cL:ce.locals=s3.heap.objs.size:=by subst hce;rfl
 generalize hH3:upd H2 D (.lst [])=H3 at I3 I4 pg pt pe w0 nfp f3
 generalize hs4:({s3 with heap:=pushCells (s3.heap.push {cls:= .type "dict",data:= .dict #[]}) scope.names}:Shared)=s4 at I4 ⊢
 have st4:tn 0 s4.heap:=T.keep _ _ _ st3 fun b _ o e=>by rw[<-hs4];exact pushCells_keeps _ _ _ _ (Heap.get?_push_of_some _ e)
 have stat:∀{σ':St} {H':Hp} {s':Shared},Inv (X.blk s3 H3 scope ce fp) [] σ' H' s'->(∀b∈fp,H' b=none)->∀b∈fp,zL7 (X.blk s3 H3 scope ce fp) [] H' b:=fun {σ' H' s'} I' hn b hb=>
  ⟨hn b hb,(I'.ok.exf b hb).1,I'.ok.exfs b hb,.inl hb,fun x c e=>(I'.ok.exf b hb).2 x c e,fun p hp=>absurd (show p∈([]:List (Addr×Obj)) ++ []from hp) (by simp)⟩
 have loop:codeAny (model X.prog X.w) X.A (.compLoop (.ListComp elt [⟨tg,iter,ifs,0⟩] scope pos) 0 (.ref it) (.ref D) ce) (compPost (model X.prog X.w) X.A X.xe use Qf (.ref D) s3.heap.objs.size) s4:=by
  refine zGt (fun n s'=>∃i H',Inv (X.blk s3 H3 scope ce fp) [] (zCi σ (own.map (·.2))) H' s'/\tn i s'.heap/\(∀b∈fp,H' b=none)/\W i n H') ?_ m0 ⟨0,H3,I4,st4,nfp,w0⟩
  rintro n s5 ⟨i,H5,I5,st5,n5,w5⟩
  rcases turn i n H5 w5 with⟨stop,qq⟩ | ⟨go,Nx,hNx,step⟩
  ·have td:=T.done (X.blk s3 H3 scope ce fp) rfl rfl rfl hc i [] s5 _ H5 (fun _ _=>False) I5 (stat I5 n5) st5 stop
   refine zPs td fun r s6 ⟨hr,I6⟩=>?_
   subst hr
   have I7:Inv X pins σ H5 s6:=I3.call' (ch:=fp) I6.os I6.base I6.hok I6.bare fun b hb=>⟨(f3 b hb).1.2.2.2.1,(f3 b hb).1.2.1,(f3 b hb).1.2.2.2.2.1,(f3 b hb).1.2.2.2.2.2⟩
   have nC:H5 s3.heap.objs.size=none:=by
    have z:H5 ce.locals=none:=I6.free
    rw[cL]at z
    exact z
   obtain⟨m,hn,_⟩:=I6.loc
   have hn:s6.heap.Ns ce.locals m:=hn
   rw[cL]at hn
   exact hRR D s3.heap.objs.size s6 m H5 I7 qq hn (I3.fpOk (Nat.le_refl _) nC)
  ·have ti:=T.item (X.blk s3 H3 scope ce fp) rfl rfl rfl hc i [] s5 _ H5 (fun _ _=>False) I5 (stat I5 n5) st5 go
   refine zPs ti fun r s6 ⟨u,hr,h6⟩=>?_
   subst hr
   refine zPs h6 fun _ s7 ⟨x,H7,I7,r7,y7,st7,n7⟩=>?_
   have I7':=I7.pinned (stat I7 n7) (T.obj _ _ st7)
   refine zPs (pg _ s7 _ H7 x u _ I7' r7 (step x H7 y7)) fun _ s8 ⟨σ8,H8,I8,hw8,q8⟩=>?_
   refine zPs (pt _ s8 σ8 H8 _ I8 q8) fun b s9 ⟨H9,I9,q9⟩=>?_
   have fin:∀{s':Shared} {H':Hp},Inv (X.blk s3 H3 scope ce fp) ([] ++zIv fp s7.heap) σ8 H' s'->Nx H'->∃m,m < n/\∃i H',Inv (X.blk s3 H3 scope ce fp) [] (zCi σ (own.map (·.2))) H' s'/\tn i s'.heap/\(∀b∈fp,H' b=none)/\W i m H':=fun {s' H'} I' nx=>by
    obtain⟨m',hm,w'⟩:=hNx H' nx
    have pin':∀b∈fp,∀o,s7.heap.get? b=some o->s'.heap.get? b=some o/\H' b=none:=fun b hb o e=>
     let z:=I'.pin (b,o) (List.mem_append_right _ (List.mem_append_right _ (zEo hb e)))
     ⟨z.1,z.2.1⟩
    have hl:(zCi σ (own.map (·.2))).length=σ8.length:=by rw[<-hw8,zDz]
    refine⟨m',hm,i+1,H',(I'.unpinned (pins:=[])).weak hl (fun j v e=>?_),T.keep _ _ _ st7 fun b hb o e=>(pin' b hb o e).1,fun b hb=>?_,w'⟩
    ·rw[<-hw8]at e
     exact(zFw e).1
    ·obtain⟨o,e,_⟩:=T.obj _ _ st7 b hb
     exact(pin' b hb o e).2
   cases b with
   | false=>
    simp only [Bool.false_eq_true,if_false]at q9 ⊢
    exact fin I9 q9
   | true=>
    simp only [if_true]at q9 ⊢
    refine wpAny_mono (pe _ _ (zV7 hw hst hf I3 f3 (by subst hce;rfl) cL) [] s9 σ8 H9 _ I9.tried q9) (fun z s10 ⟨yv,H10,I10',r10,acc,hD10,hz10,nx⟩=>?_) fun _ _ z=>z
    have I10:=I10'.untried
    exact zS6 (X:=X.blk s3 H3 scope ce fp) I10 hD10 hz10 r10 fun s11 I11=>fin I11 nx
 exact codeAny_compStart_list loop (T.self X.A 0 _ _ _ st4 loop)
end
section
variable {X:Cx} {E:XK}
theorem zV8{elt tg iter:Expr}{ifs:List Expr}{scope:Scope}{own:List (Str×Nat)}{pos:Pos}{wi:TI}{g:TG}{tt:TT}{te:TE}(hw:Wants X E)(hst:X.stack=X.env::X.outer)(hf:X.env.frame=some X.env.locals)(hc:X.calm=true)(hN:X.N.Nodup)(hi:PI X tg iter wi)(ok:zCf X.N X.env.scope scope own)
  (hg:∀(s:Shared) (H:Hp) (C:Addr) (cl:List (Str×Addr)) (fp:List Addr),PG (X.blk s H scope (compEnvC scope cl C X.env) fp) tg g) (ht:∀(s:Shared) (H:Hp) (C:Addr) (cl:List (Str×Addr)) (fp:List Addr),PTs (X.blk s H scope (compEnvC scope cl C X.env) fp) ifs tt)
  (he:∀(s:Shared) (H:Hp) (C:Addr) (cl:List (Str×Addr)) (fp:List Addr) (pn:List (Addr×Obj)) (xe:Value->Shared->Prop),Wants ((X.blk s H scope (compEnvC scope cl C X.env) fp).tried pn xe) E->PE ((X.blk s H scope (compEnvC scope cl C X.env) fp).tried pn xe) elt te)
  (hs:∀x,foldedSetIterable iter X.env x=pure x:=by intro _;rfl):
  PE X (.ListComp elt [⟨tg,iter,ifs,0⟩] scope pos) (tLc wi g tt te (own.map (·.2))):=by
 intro pins s σ H Q I h
 rw[eval_ListComp]
 refine zNk hw hst hf hc hN I hi ok hg ht he hs h fun D C s' m H' I' q hn f=>⟨m,hn,fun h'' sb=>?_⟩
 obtain⟨f0,f1,f2,f3,f4,f5⟩:=f
 exact⟨.ref D,H',I'.turned (t':=s'.toks) (fun b o hb e=>(sb.2 b hb).trans e) f0 f1 f3 f4 f5,rfl,q⟩
end
end L2
namespace L2
open PySem PySem.Spec PyProof.Rows
open PySem.W (WData)
mutual
inductive Dm(H:Hp):V->WData->Prop
 | non:Dm H .non .none
 | bl (b:Bool):Dm H (.bl b) (.bool b)
 | int (i:Int):Dm H (.int i) (.int i)
 | lst {a:Addr} {xs:List V} {ds:List WData}:H a=some (.lst xs)->DmAll H xs ds->Dm H (.ref a) (.list ds)
 | tup {a:Addr} {xs:List V} {ds:List WData}:H a=some (.tup xs)->DmAll H xs ds->Dm H (.ref a) (.tuple ds)
inductive DmAll(H:Hp):List V->List WData->Prop
 | nil:DmAll H [] []
 | cons {v:V} {vs:List V} {d:WData} {ds:List WData}:Dm H v d->DmAll H vs ds->DmAll H (v::vs) (d::ds)
end
section
variable {K:PySem.W.Frag} {H H':Hp}
mutual
theorem Dm.same(e:Same H H'):∀{v:V} {d:WData},Dm H v d->Dm H' v d
 | _,_,.non=> .non
 | _,_,.bl b=> .bl b
 | _,_,.int i=> .int i
 | _,_,.lst h r=> .lst (e _ _ h) (DmAll.same e r)
 | _,_,.tup h r=> .tup (e _ _ h) (DmAll.same e r)
theorem DmAll.same(e:Same H H'):∀{vs:List V} {ds:List WData},DmAll H vs ds->DmAll H' vs ds
 | _,_,.nil=> .nil
 | _,_,.cons h r=> .cons (Dm.same e h) (DmAll.same e r)
end
mutual
theorem Dm.dw:∀{v:V} {d:WData},Dm H v d->Dw K H v d
 | _,_,.non=> .non
 | _,_,.bl b=> .bl b
 | _,_,.int i=> .int i
 | _,_,.lst h r=> .lst (SqL.of h) (DmAll.dw r)
 | _,_,.tup h r=> .tup (SqT.of h) (DmAll.dw r)
theorem DmAll.dw:∀{vs:List V} {ds:List WData},DmAll H vs ds->zG4 K H vs ds
 | _,_,.nil=> .nil
 | _,_,.cons h r=> .cons (Dm.dw h) (DmAll.dw r)
end
theorem DmAll.length:∀{vs:List V} {ds:List WData},DmAll H vs ds->vs.length=ds.length
 | _,_,.nil=>rfl
 | _,_,.cons _ r=>by rw[List.length_cons,List.length_cons,DmAll.length r]
theorem DmAll.get:∀{vs:List V} {ds:List WData} {i:Nat} {v:V},DmAll H vs ds->vs[i]? =some v->∃d,ds[i]? =some d/\Dm H v d
 | _,_,_,_,.nil,e=>by simp at e
 | _,_,0,_,.cons h _,e=>by simp at e;subst e;exact⟨_,rfl,h⟩
 | _,_,i+1,v,.cons _ r,e=>by
  obtain⟨d,h1,h2⟩:=DmAll.get (i:=i) (v:=v) r (by simpa using e)
  exact⟨d,by simpa using h1,h2⟩
theorem DmAll.at:∀{vs:List V} {ds:List WData} {i:Nat} {d:WData},DmAll H vs ds->ds[i]? =some d->∃v,vs[i]? =some v/\Dm H v d
 | _,_,_,_,.nil,e=>by simp at e
 | _,_,0,_,.cons h _,e=>by simp at e;subst e;exact⟨_,rfl,h⟩
 | _,_,i+1,d,.cons _ r,e=>by
  obtain⟨v,h1,h2⟩:=DmAll.at (i:=i) (d:=d) r (by simpa using e)
  exact⟨v,by simpa using h1,h2⟩
theorem DmAll.append:∀{vs us:List V} {ds es:List WData},DmAll H vs ds->DmAll H us es->DmAll H (vs++us) (ds++es)
 | _,_,_,_,.nil,s=>s
 | _,_,_,_,.cons h r,s=> .cons h (DmAll.append r s)
theorem DmAll.snoc{vs:List V}{ds:List WData}{v:V}{d:WData}(h:DmAll H vs ds)(x:Dm H v d):DmAll H (vs++ [v]) (ds++ [d]):=h.append (.cons x .nil)
theorem zP6:∀ns:List Int,DmAll H (ns.map V.int) (ns.map WData.int)
 | []=> .nil
 | n::r=> .cons (.int n) (zP6 r)
theorem zP7:∀(ns:List Int) (xs:List V),DmAll H xs (ns.map WData.int)->xs=ns.map V.int
 | [],xs,h=>by
  cases h
  rfl
 | n::r,xs,h=>by
  cases h with
  | cons h1 h2=>
   cases h1
   rw[zP7 r _ h2]
   rfl
theorem zNl:∀(ns:List Bool) (xs:List V),DmAll H xs (ns.map WData.bool)->xs=ns.map V.bl
 | [],xs,h=>by
  cases h
  rfl
 | n::r,xs,h=>by
  cases h with
  | cons h1 h2=>
   cases h1
   rw[zNl r _ h2]
   rfl
theorem Dm.list_inv{v:V}{ds:List WData}(h:Dm H v (.list ds)):∃a xs,v= .ref a/\H a=some (.lst xs)/\DmAll H xs ds:=by
 cases h with
 | lst h r=>exact⟨_,_,rfl,h,r⟩
theorem Dm.tup_inv{v:V}{ds:List WData}(h:Dm H v (.tuple ds)):∃a xs,v= .ref a/\H a=some (.tup xs)/\DmAll H xs ds:=by
 cases h with
 | tup h r=>exact⟨_,_,rfl,h,r⟩
theorem Dm.int_inv{v:V}{i:Int}(h:Dm H v (.int i)):v= .int i:=by cases h;rfl
theorem Dm.bl_inv{v:V}{b:Bool}(h:Dm H v (.bool b)):v= .bl b:=by cases h;rfl
theorem Dm.non_inv{v:V}(h:Dm H v .none):v= .non:=by cases h;rfl
noncomputable def zCl(l:List Int):WData:= .list (l.map WData.int)
theorem Dm.row_inv{v:V}{l:List Int}(h:Dm H v (zCl l)):∃a,v= .ref a/\H a=some (.lst (l.map V.int)):=by
 obtain⟨a,xs,rfl,hs,r⟩:=Dm.list_inv h
 rw[zP7 l xs r]at hs
 exact⟨a,rfl,hs⟩
theorem Dm.row{a:Addr}{l:List Int}(h:H a=some (.lst (l.map V.int))):Dm H (.ref a) (zCl l):= .lst h (zP6 l)
theorem Dm.pair_inv{v:V}{i j:Int}(h:Dm H v (.tuple [.int i,.int j])):∃a,v= .ref a/\H a=some (.tup [.int i,.int j]):=by
 obtain⟨a,xs,rfl,hs,r⟩:=Dm.tup_inv h
 cases r with
 | cons r1 r2=>
  cases r2 with
  | cons r2 r3=>
   cases r3
   cases r1
   cases r2
   exact⟨a,rfl,hs⟩
theorem Same.upd{l:Addr}{o:HO}(h:H l=none):Same H (L2.upd H l o):=fun b u e=>by
 rw[zAj (zAo e h)]
 exact e
theorem Same.updR{l:Addr}{o:HO}(s:Same H H')(h:H l=none):Same H (L2.upd H' l o):=fun b u e=>by
 rw[zAj (zAo e h)]
 exact s b u e
noncomputable def wo(H:Hp)(l:Addr):Hp:=fun b=>if b=l then none else H b
theorem zEj{l b:Addr}(h:b≠l):wo H l b=H b:=by unfold wo;rw[if_neg h]
theorem zFh{l:Addr}:wo H l l=none:=by unfold wo;rw[if_pos rfl]
theorem wo_same{l:Addr}:Same (wo H l) H:=fun b o e=>by
 by_cases h:b=l
 ·rw[h,zFh]at e;cases e
 ·rw[zEj h]at e;exact e
theorem Same.wo{l:Addr}(s:Same H H'):Same (L2.wo H l) (L2.wo H' l):=fun b o e=>by
 by_cases h:b=l
 ·rw[h,zFh]at e;cases e
 ·rw[zEj h]at e ⊢;exact s b o e
end
noncomputable def mix(A H H':Hp):Hp:=fun b=>if (H b).isSome=true then A b else H' b
section
variable {A A' H H' H1 H2:Hp} {b:Addr} {o:HO}
theorem zA7(h:H b=none):mix A H H' b=H' b:=by unfold mix;rw[h];rfl
theorem zAs(h:H b=none)(e:H' b=some o):mix A H H' b=some o:=(zA7 h).trans e
theorem zA8(h:H b=some o):mix A H H' b=A b:=by unfold mix;rw[h];rfl
theorem zBf(s:Same A H):Same A (mix A H H'):=fun b o e=>by rw[zA8 (s b o e)];exact e
theorem zBs(s:Same A H)(s':Same H H'):Same (mix A H H') H':=fun b o e=>by
 cases q:H b with
 | none=>rw[zA7 q]at e;exact e
 | some u=>rw[zA8 q]at e;exact s' b o (s b o e)
theorem zP8(s1:Same H H1)(s2:Same H1 H2):Same (mix (mix A H H1) H1 H2) (mix A H H2):=fun b o e=>by
 cases q:H b with
 | some u=>rw[zA8 (s1 b u q),zA8 q]at e;rw[zA8 q];exact e
 | none=>
  rw[zA7 q]
  cases q1:H1 b with
  | none=>rw[zA7 q1]at e;exact e
  | some u=>rw[zA8 q1,zA7 q]at e;exact s2 b o e
theorem zCz(s:Same H1 H2):Same (mix A H H1) (mix A H H2):=fun b o e=>by
 cases q:H b with
 | some u=>rw[zA8 q]at e ⊢;exact e
 | none=>rw[zA7 q]at e ⊢;exact s b o e
theorem zP9{D:Addr}(s1:Same H H1)(s2:Same H1 H2)(hD:(H1 D).isSome=true):Same (mix (wo (mix A H H1) D) H1 H2) (wo (mix A H H2) D):=fun b o e=>by
 by_cases h:b=D
 ·subst h
  obtain⟨u,q⟩:=Option.isSome_iff_exists.mp hD
  rw[zA8 q,zFh]at e
  cases e
 ·rw[zEj h]
  cases q1:H1 b with
  | some u=>
   rw[zA8 q1,zEj h]at e
   exact zCz s2 b o e
  | none=>
   rw[zA7 q1]at e
   have q:H b=none:=s1.free q1
   rw[zA7 q]
   exact e
end
noncomputable def zAx(R:List WData->WData->Prop):Sp:=fun vs H Q _=>∃A ds d,Same A H/\DmAll A vs ds/\R ds d/\∀H' v,Same H H'->Dm (mix A H H') v d->Q v H'
theorem zD4{R:List WData->WData->Prop}{n:Nat}{ps:List Str}(hp:ps.length=n)(hR:∀ds d,R ds d->ds.length=n):∀vs H Q E,zAx R vs H Q E->vs.length=ps.length:=fun vs H Q E ⟨A,ds,d,_,h,r,_⟩=>by
 rw[h.length,hR ds d r,hp]
theorem b1{C:List Value->Prop}(h:∀a,C [a])(us:List Value)(l:us.length=1):C us:=by
 rcases us with _ | ⟨a,_ | ⟨z,us⟩⟩ <;> first | exact h _ | (simp at l)
theorem b2{C:List Value->Prop}(h:∀a b,C [a,b])(us:List Value)(l:us.length=2):C us:=by
 rcases us with _ | ⟨a,_ | ⟨b,_ | ⟨z,us⟩⟩⟩ <;> first | exact h _ _ | (simp at l)
theorem b3{C:List Value->Prop}(h:∀a b c,C [a,b,c])(us:List Value)(l:us.length=3):C us:=by
 rcases us with _ | ⟨a,_ | ⟨b,_ | ⟨c,_ | ⟨z,us⟩⟩⟩⟩ <;> first | exact h _ _ _ | (simp at l)
theorem b4{C:List Value->Prop}(h:∀a b c d,C [a,b,c,d])(us:List Value)(l:us.length=4):C us:=by
 rcases us with _ | ⟨a,_ | ⟨b,_ | ⟨c,_ | ⟨d,_ | ⟨z,us⟩⟩⟩⟩⟩ <;> first | exact h _ _ _ _ | (simp at l)
theorem b5{C:List Value->Prop}(h:∀a b c d e,C [a,b,c,d,e])(us:List Value)(l:us.length=5):C us:=by
 rcases us with _ | ⟨a,_ | ⟨b,_ | ⟨c,_ | ⟨d,_ | ⟨e,_ | ⟨z,us⟩⟩⟩⟩⟩⟩ <;> first | exact h _ _ _ _ _ | (simp at l)
structure DefAt(K:PySem.W.Frag)(mg:Str->Option Value)(name:Str)(st:Stmt)(f:Addr):Prop where
 mg:mg name=some (.ref f)
 fn:∃fd,Fun K name name st f fd
section
variable {P:Program} {w:World} {K:PySem.W.Frag} {mg:Str->Option Value} {base:Heap}
theorem DefAt.callee0{name:Str}{st:Stmt}{f:Addr}{N ps:List Str}{k:Nat}{sp:Sp}(F:DefAt K mg name st f)(S:zAg N ps (zAc st))(len:∀vs H Q E,sp vs H Q E->vs.length=ps.length)
  (hb:∀(kV doc pm:Value) (an:Option Addr) (cdv ct:Value) (us:List Value),us.length=ps.length->bindArgs (PySem.W.fnOf name name (zDl st) (zCd st) (zAc st) .none kV doc pm an cdv ct) ⟨us,[]⟩=pure (ps.zip us))
  (hbody:∀(cdv:Value) (A:Around) (outer:List Env) (s:Shared) (H:Hp) (vs:List V) (Q:VK) (E:XK),Room k (A.deeper (envOfC name (zAc st) s.heap.objs.size f cdv))->sp vs H Q E->
   ∃t,PSs (zL8 (CXe P w) P w K mg base N name (zAc st) f cdv A outer s H E).nox (zCd st) t/\t {nx:=fun _ H'=>Q .non H',rt:=Q} (start N vs) H):Callee P w K mg base (k+1) f ps sp:=by
 obtain⟨fd,F'⟩:=F.fn
 exact⟨⟨fd,F'.ok0 S len hbody,F'.binds hb⟩,F'.kp⟩
theorem DefAt.calleeE{name:Str}{st:Stmt}{f:Addr}{N ps:List Str}{k:Nat}{sp:Sp}(F:DefAt K mg name st f)(S:zAg N ps (zAc st))(len:∀vs H Q E,sp vs H Q E->vs.length=ps.length)
  (hb:∀(kV doc pm:Value) (an:Option Addr) (cdv ct:Value) (us:List Value),us.length=ps.length->bindArgs (PySem.W.fnOf name name (zDl st) (zCd st) (zAc st) .none kV doc pm an cdv ct) ⟨us,[]⟩=pure (ps.zip us))
  (hbody:∀(cdv:Value) (A:Around) (outer:List Env) (s:Shared) (H:Hp) (vs:List V) (Q:VK) (E:XK),Room k (A.deeper (envOfC name (zAc st) s.heap.objs.size f cdv))->Wants (zL8 (CXe P w) P w K mg base N name (zAc st) f cdv A outer s H E) E->sp vs H Q E->
   ∃t,PSs (zL8 (CXe P w) P w K mg base N name (zAc st) f cdv A outer s H E) (zCd st) t/\t {nx:=fun _ H'=>Q .non H',rt:=Q} (start N vs) H):Callee P w K mg base (k+1) f ps sp:=by
 obtain⟨fd,F'⟩:=F.fn
 exact⟨⟨fd,F'.okE S len hbody,F'.binds hb⟩,F'.kp⟩
theorem Callee.mono{j k:Nat}{f:Addr}{ps:List Str}{sp:Sp}(C:Callee P w K mg base j f ps sp)(h:j<=k):Callee P w K mg base k f ps sp:=by
 obtain⟨⟨fd,F,b⟩,kp⟩:=C
 exact⟨⟨fd,F.mono h,b⟩,kp⟩
end
section
variable {X:Cx} {k:Nat} {f:Addr} {ps:List Str} {sp:Sp} {E:XK} {x:Str} {p pos:Pos} {e:Expr} {es:List Expr} {t:TA}
noncomputable def zI5(sp:Sp)(E:XK)(t:TA):TE:=fun σ H Q=>t σ H fun vs H1=>sp vs H1 Q E
theorem zAh(C:Callee X.prog X.w X.K X.mg X.base k f ps sp)(hr:Room k X.A)(hg:Gl X x)(hm:X.mg x=some (.ref f))(hw:Wants X E)(ha:PA X (e::es) t)
  (hdb:(x == ("__debug__":Str))=false:=by decide) (he:starEach (e::es) X.env=(false,eval e X.env)::starEach es X.env:=by rfl) (hpl:(backTo pos (starEach es X.env)).any (·.1)=false:=by rfl):
  PE X (.Call (.Name x p) (e::es) [] pos) (zI5 sp E t):=by
 obtain⟨⟨fd,F,b⟩,kp⟩:=C
 intro pins s σ H Q I h
 refine zTx F hr hg hm kp b .nil hw.passes ha hdb he hpl pins s σ H Q I ?_
 show t σ H fun vs H1=>sp (vs++ []) H1 Q E
 have e2:(fun vs H1=>sp (vs++ []) H1 Q E)=fun vs H1=>sp vs H1 Q E:=by funext vs H1;rw[List.append_nil]
 rw[e2]
 exact h
end
end L2
namespace L2
open PySem PySem.Spec PyProof.Rows
open PySem.W (WData)
noncomputable abbrev zKi:=List (List Key)
noncomputable def NestAt(H:Hp)(b:Addr)(k:zKi):Prop:=∃bs:List Addr,H b=some (.tup (bs.map V.ref))/\Paired (fun(r:List Key) (c:Addr)=>H c=some (.tup (r.map kV))) k bs
noncomputable def zR4(e:zKi×Addr×Addr):zKi×Addr×Value:=(e.1,e.2.1,.ref e.2.2)
noncomputable def dN(P:Program)(w:World)(a:Addr)(L:List (zKi×Addr×Addr)):HO:= .ext fun h=>(a == sysModules)=false/\∃o es ep,h.get? a=some o/\o.ExactDict/\o.data= .dict es ep/\es.toList=(L.map zR4).map (entryOfKey (zHb (zBm P w)))/\(L.map (·.1)).Nodup
noncomputable def zG5(L:List (zKi×Addr×Addr))(k:zKi):Option Addr:=(L.find? fun e=>decide (e.1=k)).map (·.2.2)
noncomputable def NDict(P:Program)(w:World)(H:Hp)(a:Addr)(L:List (zKi×Addr×Addr)):Prop:=H a=some (dN P w a L)/\∀e∈L,NestAt H e.2.1 e.1
theorem NestAt.same{H H':Hp}{b:Addr}{k:zKi}(x:NestAt H b k)(e:Same H H'):NestAt H' b k:=by
 obtain⟨bs,h1,h2⟩:=x
 exact⟨bs,e _ _ h1,Paired.mapP h2 fun _ _ q=>e _ _ q⟩
theorem NestAt.upd{H:Hp}{b d:Addr}{k:zKi}{o u:HO}(x:NestAt H b k)(hd:H d=some u)(hu:∀xs,u≠.tup xs):NestAt (L2.upd H d o) b k:=by
 obtain⟨bs,h1,h2⟩:=x
 have ne:∀c xs,H c=some (.tup xs)->L2.upd H d o c=some (.tup xs):=fun c xs e=>by
  rw[zAj (zEw e hd fun z=>hu xs z.symm)]
  exact e
 exact⟨bs,ne _ _ h1,Paired.mapP h2 fun _ _ q=>ne _ _ q⟩
section
variable {P:Program} {w:World} {H:Hp} {h:Heap} {a b:Addr} {k:zKi} {L:List (zKi×Addr×Addr)}
theorem NDict.put{c:Addr}(x:NDict P w H a L)(hb:NestAt H b k):NDict P w (L2.upd H a (dN P w a (L++ [(k,b,c)]))) a (L++ [(k,b,c)]):=by
 refine⟨zAb,fun e he=>?_⟩
 rcases List.mem_append.mp he with he | he
 ·exact(x.2 e he).upd x.1 (fun _ z=>by cases z)
 ·rw[List.mem_singleton.mp he]
  exact hb.upd x.1 (fun _ z=>by cases z)
theorem zLj:∀{bs:List Addr} {us:List Value},Vals (bs.map V.ref) us->us=bs.map Value.ref
 | [],us,r=>by
  cases r
  rfl
 | b::bs,us,r=>by
  cases r with
  | cons h t=>
   cases h
   rw[zLj t]
   rfl
theorem NestAt.is(ok:HOk P w H h)(x:NestAt H b k):IsNest (zBm P w) h k b:=by
 obtain⟨bs,h1,h2⟩:=x
 obtain⟨hz,its,r,o,e1,e2,n,e3⟩:=(show ObjOk P w H h b (.tup (bs.map V.ref))from ok b _ h1)
 refine⟨o,its.toArray,n,e1,e2,e3,?_⟩
 rw[zLj r]
 clear h1 r e3 hz
 show RowsAre (zBm P w) h k (bs.map Value.ref)
 induction h2 with
 | nil=>exact .nil
 | cons q t ih=>exact .cons (zLb ok q) ih
theorem NDict.dict(ok:HOk P w H h)(x:NDict P w H a L):(a == sysModules)=false/\h.DictOfH (zHb (zBm P w)) a (L.map zR4):=by
 obtain⟨e,hk⟩:=x
 obtain⟨⟨hs,o,es,ep,h1,h2,h3,h4,h5⟩,_⟩:=(show ObjOk P w H h a (dN P w a L)from ok a _ e)
 refine⟨hs,o,es,ep,h1,h2,h3,h4,fun y hy=>?_,by rw[List.map_map];exact h5⟩
 obtain⟨z,hz,rfl⟩:=List.mem_map.mp hy
 exact(hk z hz).is ok
theorem zJy(L:List (zKi×Addr×Addr))(k:zKi):(atKey (L.map zR4) k).map (·.2)=(zG5 L k).map Value.ref:=by
 unfold atKey zG5
 rw[List.find?_map]
 have e:((fun x:zKi×Addr×Value=>decide (x.1=k))∘zR4)=fun e:zKi×Addr×Addr=>decide (e.1=k):=rfl
 rw[e]
 cases L.find? fun e=>decide (e.1=k) <;> rfl
theorem zV9{h':Heap}{H':Hp}{o:Obj}{es:Array DictEntry}{ep:Nat}(hs:(a == sysModules)=false)(h1:h'.get? a=some o)(h2:o.ExactDict)(h3:o.data= .dict es ep)(h4:es.toList=(L.map zR4).map (entryOfKey (zHb (zBm P w))))(h5:(L.map (·.1)).Nodup):
  ObjOk P w H' h' a (dN P w a L):=
 ⟨⟨hs,o,es,ep,h1,h2,h3,h4,h5⟩,⟨o,h1⟩,fun k1 k2 ⟨q0,o',es',ep',q1,q2⟩ hk=>⟨q0,o',es',ep',hk _ q1,q2⟩⟩
end
noncomputable def zYy(P:Program)(w:World)(td ty:TE):TE:=fun σ H Q=>td σ H fun x H1=>ty σ H1 fun y H2=>∃a L b k v,x= .ref a/\y= .ref b/\NDict P w H2 a L/\NestAt H2 b k/\zG5 L k=some v/\Q (.ref v) H2
noncomputable def zMs(P:Program)(w:World)(ty td:TE):TE:=fun σ H Q=>ty σ H fun y H1=>td σ H1 fun x H2=>∃a L b k,x= .ref a/\y= .ref b/\NDict P w H2 a L/\NestAt H2 b k/\Q (.bl (!(zG5 L k).isSome)) H2
noncomputable def zYz(P:Program)(w:World)(td ty tv:TE):TS:=fun D σ H=>tv σ H fun v H1=>td σ H1 fun x H2=>ty σ H2 fun y H3=>∃a L b k c,x= .ref a/\y= .ref b/\v= .ref c/\NDict P w H3 a L/\NestAt H3 b k/\zG5 L k=none/\L.length<=sizeLine/\D.nx σ (upd H3 a (dN P w a (L++ [(k,b,c)])))
noncomputable def zQa(P:Program)(w:World):TE:=fun _ H Q=>∀p,H p=none->Q (.ref p) (upd H p (dN P w p []))
section
variable {X:Cx} {o i e value:Expr} {pos pos' tpos:Pos} {td ty tv:TE}
theorem zH2{prog:Program}{w:World}{K:Type}[DecidableEq K]{knd:KeyKind prog w K}{A:Around}(hu:A.units+64 < cLine):(zHb knd).room A.in1:=by
 show A.units+1+4 < cLine
 omega
theorem zQb(hu:X.A.units+64 < cLine)(ho:PE X o td)(hi:PE X i ty)(hs:zYs i):PE X (.Subscript o i pos) (zYy X.prog X.w td ty):=by
 intro pins s σ H Q I h
 refine zPw PySem.F.slot_dict_getitem.lookup hs (thn (ho pins s σ H _ I h) fun u s1 ⟨x,H1,I1,rx,q1⟩=>thn (hi pins s1 σ H1 _ I1 q1) fun iv s2 ⟨y,H2,I2,ry,a,L,b,k,v,ex,ey,hd,hk,hl,q2⟩=>?_)
 subst ex ey
 obtain rfl:u=Value.ref a:=rx
 obtain rfl:iv=Value.ref b:=ry
 obtain⟨_,dd⟩:=hd.dict I2.hok
 have z:=zJy L k
 rw[hl]at z
 obtain⟨p,hp,hp2⟩:=Option.map_eq_some_iff.mp z
 refine⟨dd.typeIs,wpAny_getItem_heap (zH2 hu) (hk.is I2.hok) dd hp ?_⟩
 rw[hp2]
 exact⟨.ref v,H2,I2.tok _,rfl,q2⟩
theorem zLk(hu:X.A.units+64 < cLine)(hi:PE X i ty)(ho:PE X o td):PC X .NotIn i o (zMs X.prog X.w ty td):=by
 intro pins s σ H Q I h
 refine thn (hi pins s σ H _ I h) fun iv s1 ⟨y,H1,I1,ry,q1⟩=>thn (ho pins s1 σ H1 _ I1 q1) fun u s2 ⟨x,H2,I2,rx,a,L,b,k,ex,ey,hd,hk,q2⟩=>?_
 subst ex ey
 obtain rfl:u=Value.ref a:=rx
 obtain rfl:iv=Value.ref b:=ry
 obtain⟨hs,dd⟩:=hd.dict I2.hok
 refine wpAny_notIn_heap (zH2 hu) (hk.is I2.hok) hs dd ?_
 have z:=congrArg Option.isSome (zJy L k)
 rw[Option.isSome_map,Option.isSome_map]at z
 rw[z]
 exact⟨.bl _,H2,I2.tok _,rfl,q2⟩
theorem zQc(hu:X.A.units+64 < cLine)(ho:PE X o td)(hi:PE X i ty)(hv:PE X value tv)(hs:swapsWith value (some (.Subscript o i pos')) pos.line X.env=pure false):
  PS X (.Assign [.Subscript o i pos'] value pos) (zYz X.prog X.w td ty tv):=by
 intro pins s σ H D I h
 refine wpAny_Assign_Subscript (thn (hv pins s σ H _ I h) fun r s1 ⟨v,H1,I1,rv,q1⟩=>thn (ho pins s1 σ H1 _ I1 q1) fun u s2 ⟨x,H2,I2,rx,q2⟩=>thn (hi pins s2 σ H2 _ I2 q2) fun iv s3 ⟨y,H3,I3,ry,a,L,b,k,c,ex,ey,ev,hd,hk,hl,hz,q3⟩=>?_) hs
 subst ex ey ev
 obtain rfl:u=Value.ref a:=rx
 obtain rfl:iv=Value.ref b:=ry
 obtain rfl:r=Value.ref c:=rv
 obtain⟨hm,dd⟩:=hd.dict I3.hok
 have z:=zJy L k
 rw[hl]at z
 have z0:atKey (L.map zR4) k=none:=by
  cases e:atKey (L.map zR4) k with
  | none=>rfl
  | some p=>rw[e]at z;cases z
 refine wpAny_setItem_heap (hsz:=by rw[List.length_map];exact hz) (zH2 hu) (hk.is I3.hok) dd fun h' dd' hsb=>?_
 rw[storedH_new z0]at dd'
 have eL:L.map zR4++ [(k,b,Value.ref c)] =(L++ [(k,b,c)]).map zR4:=by rw[List.map_append];rfl
 rw[eL]at dd'
 obtain⟨q,es,ep,hq,h2,h3,h4,_,h5⟩:=dd'
 rw[List.map_map]at h5
 exact⟨σ,_,zMn I3 (by rw[hd.1];exact True.intro) hsb ⟨q,hq⟩ (zV9 hm hq h2 h3 h4 h5),q3⟩
theorem zNm:PE X (.Dict [] [] pos) (zQa X.prog X.w):=fun pins s σ H Q I h=>
 wpAny_Dict_empty ⟨.ref s.heap.objs.size,_,I.laid (a:=s.heap.objs.size) (o:=dN X.prog X.w s.heap.objs.size []) (t':=s.toks) (fun _ _ q=>Heap.get?_push_of_some _ q) (Nat.le_refl _)
  (zV9 (L:=[]) (beq_eq_false_iff_ne.mpr (Ne.symm (Nat.ne_of_lt I.big))) (Heap.get?_push_size _ rfl) ⟨rfl,rfl,rfl⟩ rfl rfl List.nodup_nil),rfl,h _ (I.hok.fresh (Nat.le_refl _))⟩
end
end L2
namespace L2
open PySem PySem.Spec PyProof.Rows
section
variable {X:Cx} {e:Expr} {te:TE} {p2 pos:Pos} {st:Expr} {tt:TE}
noncomputable def yCp(K:PySem.W.Frag)(te tt:TE):TE:=fun σ H Q=>te σ H fun x H1=>tt σ H1 fun y H2=>∃a xs,x= .ref a/\y= .int (-1)/\SqL K H2 a xs/\∀p,H2 p=none->Q (.ref p) (upd H2 p (.lst xs.reverse))
theorem zWa(he:PE X e te)(ht:PE X st tt):PE X (.Subscript e (.Slice none none (some st) p2) pos) (yCp X.K te tt):=by
 intro pins s σ H Q I h
 refine Subscript_ (thn (he pins s σ H _ I h) fun v s1 ⟨x,H1,I1,r1,q1⟩=>?_)
 refine wpAny_Slice ?_
 rw[evalPart_none,evalPart_some]
 refine wpAny_pure (wpAny_pure ?_)
 refine thn (ht pins s1 σ H1 _ I1 q1) fun vk s3 ⟨y,H3,I3,r3,a,xs,ex,ey,hs,q⟩=>?_
 subst ex ey
 cases r1
 obtain⟨t,rfl⟩:=r3
 have I4:Inv X pins σ H3 {s3 with heap:=s3.heap.push {cls:= .type "slice",data:= .fields #[.none,.none,.int (-1) t]}}:=I3.kept (t':=s3.toks) fun b ob q=>Heap.get?_push_of_some _ q
 obtain⟨its,r,hl,hz⟩:=I4.list hs
 have hlen:=r.length
 show wpAny (model X.prog X.w) X.A (subscriptTail e (.Slice none none (some st) p2) (.ref a) (.ref s3.heap.objs.size)) (EP X pins σ Q) X.xe {s3 with heap:=s3.heap.push {cls:= .type "slice",data:= .fields #[.none,.none,.int (-1) t]}}
 refine tail_any (ops:=[.ref a,.ref s3.heap.objs.size]) hl.isList.typeIs slot_list_getitem.lookup ?_ rfl
 refine wpAny_getItem_list_slice (sl:=s3.heap.objs.size) hl.isList (Heap.IsSliceOf.new ..) .none .none (.int (-1) t) (by simp) ?_ (by rw[List.size_toArray] <;> omega)
 rw[PySem.W.krv_pick]
 refine⟨.ref _,_,I4.laid (t':=s3.toks) (o:= .lst xs.reverse) (fun b ob q=>Heap.get?_push_of_some _ q) (Nat.le_refl _) ?_,rfl,q _ (I4.hok.fresh (Nat.le_refl _))⟩
 exact⟨by rw[List.length_reverse];exact hz,_,0,r.reverse,Heap.get?_push_size _ rfl⟩
theorem zOn(hc:X.calm=true):zFs X (.type "list") (fun xs H Q=>∃d kvs,xs= [V.ref d]/\H d=some (.dK kvs)/\∀p,H p=none->Q (.ref p) (upd H p (.lst (kvs.map fun q=>kV q.1)))):=by
 intro pins s σ H xs us Q I r h
 obtain⟨d,kvs,rfl,hd,q⟩:=h
 obtain⟨u,rfl,ru⟩:=zMh r
 cases ru
 obtain⟨hz,hS,vs,kv,m⟩:kvs.length<=sizeLine/\(d == sysModules)=false/\∃vs,KV kvs vs/\s.heap.DictOf (zBm X.prog X.w) d vs:=I.hok d _ hd
 have hlen:kvs.length=vs.length:=Paired.length kv
 obtain⟨ep,hm⟩:=m.dictAt
 refine PySem.W.kdl_call (PySem.W.kdl_dict hS) (I.ok.hd hc) hm (by omega) fun h' tk acc c hk hp hacc=>?_
 refine⟨.ref _,_,I.laid (t':=tk) (o:= .lst (kvs.map fun q=>kV q.1)) hk (Nat.le_refl _) ?_,rfl,q _ (I.hok.fresh (Nat.le_refl _))⟩
 have hv:Vals (kvs.map fun q=>kV q.1) acc.toList:=by
  have gen:∀(kvs:List (Key×V)) (vs:List (Key×Value)) (l:List Value),KV kvs vs->l.length=vs.length->(∀(j:Nat) (v:Value),l[j]? =some v->∃k x,vs[j]? =some (k,x)/\(zBm X.prog X.w).is k v=true)->Vals (kvs.map fun q=>kV q.1) l:=by
   intro kvs
   induction kvs with
   | nil=>
    intro vs l kv hl _
    cases kv
    cases l with
    | nil=>exact .nil
    | cons a l=>simp at hl
   | cons k kvs ih=>
    intro vs l kv hl hj
    cases kv with
    | cons r t=>
     cases l with
     | nil=>simp at hl
     | cons a l=>
      refine .cons ?_ (ih _ l t (by simpa using hl) fun j v e=>?_)
      ·obtain⟨k',x,e1,e2⟩:=hj 0 a rfl
       have e1:=Option.some.inj e1
       have e3:(zBm X.prog X.w).is k.1 a=true:=by rw[r.1,e1];exact e2
       show RelV (kV k.1) a
       rcases zBl e3 with⟨i,t,h1,h2⟩ | ⟨y,t,h1,h2⟩
       ·rw[h1,h2];exact⟨t,rfl⟩
       ·rw[h1,h2];exact⟨t,rfl⟩
      ·obtain⟨k',x,e1,e2⟩:=hj (j+1) v (by simpa using e)
       exact⟨k',x,by simpa using e1,e2⟩
  refine gen kvs vs acc.toList kv (by rw[Array.length_toList];exact hacc.1) fun j v e=>hacc.2 j v (by rw[<-Array.getElem?_toList];exact e)
 refine⟨by rw[List.length_map];exact hz,acc.toList,c,hv,?_⟩
 exact hp
theorem zH3:MtR X "list.count" (fun x xs H Q=>∃a ns k,x= .ref a/\xs= [.int k]/\SqL X.K H a (List.map V.int ns)/\Q (.int (ns.count k:Nat)) H):=by
 intro pins s σ H x xs v us Q I rx rxs h
 obtain⟨a,ns,k,rfl,rfl,hs,q⟩:=h
 cases rx
 obtain⟨u,rfl,ru⟩:=zMh rxs
 obtain⟨t,rfl⟩:=ru
 obtain⟨its,rv,hl,hz⟩:=I.list hs
 exact count_list_ints hl.isList (zI1 rv) ⟨.int (ns.count k:Nat),H,I.tok _,⟨_,rfl⟩,q⟩
end
theorem zTa{K:PySem.W.Frag}{a b:Addr}{xs ys:List V}{g:TG}{tt:TT}{te:TE}{vs:List Nat}{σ:St}{H1:Hp}{D:Addr}{Qd:Hp->Prop}(Pv:Nat->Hp->Prop)(h0:Pv 0 (upd H1 D (.lst [])))(hl:∀i H,Pv i H->SqL K H a xs/\SqL K H b ys)
  (hs:∀i x y T H,xs[i]? =some x->ys[i]? =some y->Pv i H->H T=none->g (.ref T) (zCi σ vs) (upd H T (.tup [x,y])) fun σ2 H2=>zCi σ2 vs=zCi σ vs/\tt σ2 H2 fun b H3=>
   if b=true then te σ2 H3 fun y H4=>∃acc,H4 D=some (.lst acc)/\acc.length < sizeLine/\Pv (i+1) (upd H4 D (.lst (acc++ [y])))else Pv (i+1) H3) (hd:∀H,Pv (min xs.length ys.length) H->Qd H):
  ∃W:Nat->Nat->Hp->Prop,(∃m,W 0 m (upd H1 D (.lst [])))/\∀i m H,W i m H->
   ((Itz K a b).stop i H/\Qd H)\/((Itz K a b).go i H/\∃Nx:Hp->Prop,(∀H',Nx H'->∃m',m' < m/\W (i+1) m' H')/\∀x H',(Itz K a b).yld i H x H'->g x (zCi σ vs) H' fun σ2 H2=>zCi σ2 vs=zCi σ vs/\tt σ2 H2 fun b H3=>
    if b=true then te σ2 H3 fun y H4=>∃acc,H4 D=some (.lst acc)/\acc.length < sizeLine/\Nx (upd H4 D (.lst (acc++ [y])))else Nx H3):=by
 refine⟨fun i m H=>m=min xs.length ys.length - i/\i<=min xs.length ys.length/\Pv i H,⟨min xs.length ys.length,by simp,Nat.zero_le _,h0⟩,?_⟩
 rintro i m H ⟨rfl,hi,p⟩
 obtain⟨q1,q2⟩:=hl i H p
 by_cases hlt:i < min xs.length ys.length
 ·have h1:i < xs.length:=by omega
  have h2:i < ys.length:=by omega
  refine .inr ⟨⟨xs,ys,xs[i],ys[i],q1,q2,by simp[h1],by simp[h2]⟩,Pv (i+1),fun H' p'=>⟨min xs.length ys.length - (i+1),by omega,rfl,hlt,p'⟩,fun x H' z=>?_⟩
  obtain⟨T,x1,y1,e1,e2,e3,z1,z2⟩:=z
  subst e1 e3
  exact hs i x1 y1 T H (z1 xs q1) (z2 ys q2) p e2
 ·have e:i=min xs.length ys.length:=by omega
  subst e
  exact .inl ⟨⟨xs,ys,q1,q2,by omega⟩,hd H p⟩
end L2
namespace L2
open PySem PySem.Spec PyProof.Rows
theorem zq{α:Sort _}{A Q:α->Prop}{a:α}(e:A a)(h:Q a):∃x,A x/\Q x:=⟨a,e,h⟩
theorem zf{K:PySem.W.Frag}{H:Hp}{a C:Addr}{dx:Addr}{fs:List (Str×V)}{f:Str}{v:V}{Q:V->Prop}(h:H a=some (.ins C dx fs))(c:Cls K C)(n:NoAttr K C f)(l:fs.lookup f=some v)(q:Q v):∃a' C' dx fs v',V.ref a= .ref a'/\H a'=some (.ins C' dx fs)/\Cls K C'/\NoAttr K C' f/\fs.lookup f=some v'/\Q v':=⟨a,C,dx,fs,v,rfl,h,c,n,l,q⟩
theorem fsc{N P:List Str}{sc:Scope}(a:sc.kind=.function:=by rfl)(b:sc.isCoroutine=false:=by rfl)(c:sc.isGenerator=false:=by rfl)(d:N.Nodup:=by decide +kernel)(e:N.take P.length=P:=by rfl)(f:∀x∈P,sc.names.lookup x=some .local\/sc.names.lookup x=some .cell:=by decide +kernel)(g:∀y∈sc.names,y.2≠.free:=by decide +kernel):zAg N P sc:=⟨a,b,c,d,e,f,g⟩
theorem bok{N:List Str}{sc s:Scope}{o:List (Str×Nat)}(a:s.kind=.function:=by rfl)(b:∀y∈s.names,s.names.lookup y.1=some y.2:=by decide +kernel)(c:∀p∈o,N[p.2]? = some p.1:=by decide +kernel)(d:∀y∈s.names,y.2=.free->sc.names.lookup y.1=some .cell\/sc.names.lookup y.1=some .free:=by decide +kernel)(e:∀y∈s.names,y.2=.local\/y.2=.cell->y.1∈o.map (·.1)\/y.1∉N:=by decide +kernel):zCf N sc s o:=⟨a,b,c,d,e⟩
end L2
namespace Rf
open PySem PySem.Spec PyProof.Rows L2
open PySem.W (WData)
open VametBase (done within)
noncomputable abbrev zDp:=VametBase.Step
noncomputable abbrev zC0:=VametBase.Row
noncomputable def top(i:Nat):Stmt:=PySem.Challenge.pw_relationsfound_s01_answers.main.body.getD i (.Pass ⟨0,0,0,0⟩)
noncomputable def zAy:zDp->Nat
 | .add _=>0 | .times _=>1 | .rest _=>2 | .abs=>3 | .sort=>4 | .reverse=>5 | .rotate _=>6 | .take _=>7 | .drop _=>8 | .above _=>9
 | .once=>10 | .sum=>11 | .greatest=>12 | .least=>13 | .count=>14 | .steps=>15 | .sums=>16 | .twice=>17
noncomputable def zCo:zDp->Int
 | .add c=>c | .times c=>c | .rest m=>(m:Int) | .rotate k=>(k:Int) | .take k=>(k:Int) | .drop k=>(k:Int) | .above c=>c | _=>0
noncomputable def zI6:zDp->Prop
 | .add c=> -99<=c/\c<=99 | .times c=> -99<=c/\c<=99 | .rest m=>1<=m/\m<=9 | .rotate k=>k<=9 | .take k=>k<=9 | .drop k=>k<=9 | .above c=> -99<=c/\c<=99 | _=>True
noncomputable def RStep(n:Nat)(ds:List WData)(d:WData):Prop:=∃(l:zC0) (s:zDp),ds= [zCl l,.int (zCo s)]/\zAy s=n/\within l=true/\zI6 s/\d=zCl (done s l)
theorem RStep.len{n:Nat}:∀ds d,RStep n ds d->ds.length=2:=fun ds d ⟨l,s,e,_⟩=>by rw[e];rfl
theorem zBg{l:zC0}(h:within l=true):l.length<=40:=by
 unfold VametBase.within at h
 rw[Bool.and_eq_true]at h
 exact of_decide_eq_true h.1
theorem zOo{l:zC0}(h:within l=true){x:Int}(hx:x∈l): -1000000<=x/\x<=1000000:=by
 unfold VametBase.within at h
 rw[Bool.and_eq_true]at h
 have:=List.all_eq_true.mp h.2 x hx
 rw[Bool.and_eq_true,decide_eq_true_iff,decide_eq_true_iff]at this
 unfold VametBase.MOST at this
 omega
theorem zCg{n:Nat}(h:n<=100000):n < sizeLine:=Nat.lt_of_le_of_lt h (by decide)
theorem zEa{n:Nat}(h:n<=100000):n<=sizeLine:=Nat.le_of_lt (zCg h)
section
variable {K:PySem.W.Frag}
theorem zNn{a D:Addr}{l:List Int}{i:Nat}{te:TE}{vs:List Nat}{σ:L2.St}{H1:Hp}{Qd:Hp->Prop}(f:Int->Int)(hs:SqL K H1 a (l.map V.int))(hD:H1 D=none)(hl:l.length<=100000)
  (hw:∀x,zCi ((zCi σ vs).set i x) vs=zCi σ vs) (turn:∀n H' (R:VK),n∈l->R (.int (f n)) H'->te ((zCi σ vs).set i (some (.int n))) H' R)
  (fin:∀H',Same H1 H'->H' D=some (.lst ((l.map f).map V.int))->Qd H'):
  ∃W:Nat->Nat->Hp->Prop,(∃m,W 0 m (upd H1 D (.lst [])))/\∀i' m H,W i' m H->
   ((Itl K a).stop i' H/\Qd H)\/((Itl K a).go i' H/\∃Nx:Hp->Prop,(∀H',Nx H'->∃m',m' < m/\W (i'+1) m' H')/\∀x H',(Itl K a).yld i' H x H'->zEx i x (zCi σ vs) H' fun σ2 H2=>zCi σ2 vs=zCi σ vs/\zNb σ2 H2 fun b H3=>
    if b=true then te σ2 H3 fun y H4=>∃acc,H4 D=some (.lst acc)/\acc.length < sizeLine/\Nx (upd H4 D (.lst (acc++ [y])))else Nx H3):=by
 refine zD0 (xs:=l.map V.int) (fun j H'=>Same H1 H'/\H' D=some (.lst (((l.take j).map f).map V.int))) ⟨Same.upd hD,zAb⟩ (fun j H' _ h=>h.1.seq hs) (fun j x H' hx h=>?_) (fun H' h=>?_)
 ·obtain⟨n,hn,rfl⟩:∃n,l[j]? =some n/\x=V.int n:=by
   rw[List.getElem?_map]at hx
   cases e:l[j]? with
   | none=>rw[e]at hx;cases hx
   | some n=>rw[e]at hx;exact⟨n,rfl,(Option.some.inj hx).symm⟩
  refine⟨hw _,?_⟩
  simp only [zNb,if_true]
  refine turn n H' _ (List.mem_of_getElem? hn) ⟨_,h.2,?_,h.1.updR hD,?_⟩
  ·rw[List.length_map,List.length_map,List.length_take]
   exact zCg (by omega)
  ·rw[zAb,zA2 hn,List.map_append,List.map_append]
   rfl
 ·rw[List.length_map,List.take_length]at h
  exact fin H' h.1 h.2
end
theorem RStep.open{n:Nat}{vs:List V}{H:Hp}{Q:VK}{E:XK}(h:zAx (RStep n) vs H Q E):∃(l:zC0) (st:zDp) (a:Addr),vs= [.ref a,.int (zCo st)]/\H a=some (.lst (l.map V.int))/\zAy st=n/\within l=true/\zI6 st/\
  (∀H' p,Same H H'->H p=none->H' p=some (.lst ((done st l).map V.int))->Q (.ref p) H')/\(done st l=l->Q (.ref a) H):=by
 obtain⟨Ar,ds,d,sA,hd,⟨l,st,rfl,hn,hw,hok,rfl⟩,k⟩:=h
 cases hd with
 | cons h1 h2=>
  cases h2 with
  | cons h2 h3=>
   cases h3
   obtain⟨a,rfl,hs⟩:=Dm.row_inv h1
   obtain rfl:=Dm.int_inv h2
   refine⟨l,st,a,rfl,sA _ _ hs,hn,hw,hok,fun H' p e hp q=>k H' _ e (Dm.row (zAs hp q)),fun e=>k H _ (Same.refl H) (Dm.row (zBf sA _ _ ?_))⟩
   rw[e]
   exact hs
structure Blt(mg:Str->Option Value):Prop where
 abs:mg "abs" =none
 sorted:mg "sorted" =none
 len:mg "len" =none
 max:mg "max" =none
 min:mg "min" =none
 sum:mg "sum" =none
 all:mg "all" =none
 set:mg "set" =none
 list:mg "list" =none
 zip:mg "zip" =none
 range:mg "range" =none
 tuple:mg "tuple" =none
 any:mg "any" =none
 enumerate:mg "enumerate" =none
section
variable {P:Program} {w:World} {K:PySem.W.Frag} {mg:Str->Option Value} {base:Heap}
noncomputable abbrev s38:Stmt:=top 63
theorem sc38:zAg ["row","value","number"] ["row","value"] (zAc s38):= fsc
theorem yCq{f:Addr}(F:DefAt K mg "add_to_each" s38 f):Callee P w K mg base 1 f ["row","value"] (zAx (RStep 0)):=by
 refine F.callee0 sc38 (zD4 rfl RStep.len) (fun _ _ _ _ _ _=>b2 fun _ _=>rfl) (fun cdv A outer s H vs Q E hr h=>?_)
 obtain⟨l,st,a,rfl,hs,hn,hw,hok,k,k0⟩:=RStep.open h
 obtain⟨c,rfl⟩:∃c,st= .add c:=by cases st <;> first | exact⟨_,rfl⟩ | (exact absurd hn (by simp[zAy]))
 refine⟨_,zAf (zAi (zEh (own:=[("number",2)]) rfl sc38.nd (zBo (pv 0)) (show zCf ["row","value","number"] (zAc s38) _ [("number",2)]from bok)
  (fun s H C cl fp=>zAv (i:=2) sc38.nd rfl (Or.inl rfl)) (fun s H C cl fp=>zB2) (fun s H C cl fp=>zC3 zPk (pv 2) (pv 1)))),?_⟩
 refine (zq rfl ⟨a,rfl,⟨_,SqL.of hs⟩,fun D hD=>zNn (fun x=>x+c) (SqL.of hs) hD (by have:=zBg hw;omega) (fun x=>rfl) (fun n H' R hn q=>?_) (fun H' e q=>?_)⟩)
 ·exact (zq rfl (zq rfl ⟨_,(zq rfl ⟨rfl,q⟩)⟩))
 ·exact k H' _ e hD q
noncomputable abbrev s39:Stmt:=top 64
theorem sc39:zAg ["row","value","number"] ["row","value"] (zAc s39):= fsc
theorem yCr{f:Addr}(F:DefAt K mg "times_each" s39 f):Callee P w K mg base 1 f ["row","value"] (zAx (RStep 1)):=by
 refine F.callee0 sc39 (zD4 rfl RStep.len) (fun _ _ _ _ _ _=>b2 fun _ _=>rfl) (fun cdv A outer s H vs Q E hr h=>?_)
 obtain⟨l,st,a,rfl,hs,hn,hw,hok,k,k0⟩:=RStep.open h
 obtain⟨c,rfl⟩:∃c,st= .times c:=by cases st <;> first | exact⟨_,rfl⟩ | (exact absurd hn (by simp[zAy]))
 refine⟨_,zAf (zAi (zEh (own:=[("number",2)]) rfl sc39.nd (zBo (pv 0)) (show zCf ["row","value","number"] (zAc s39) _ [("number",2)]from bok)
  (fun s H C cl fp=>zAv (i:=2) sc39.nd rfl (Or.inl rfl)) (fun s H C cl fp=>zB2) (fun s H C cl fp=>zC3 zM3 (pv 2) (pv 1)))),?_⟩
 refine (zq rfl ⟨a,rfl,⟨_,SqL.of hs⟩,fun D hD=>zNn (fun x=>x * c) (SqL.of hs) hD (by have:=zBg hw;omega) (fun x=>rfl) (fun n H' R hn q=>?_) (fun H' e q=>?_)⟩)
 ·exact (zq rfl (zq rfl ⟨_,(zq rfl ⟨rfl,.inl (by have:=zOo hw hn;omega),q⟩)⟩))
 ·exact k H' _ e hD q
noncomputable abbrev s40:Stmt:=top 65
theorem sc40:zAg ["row","value","number"] ["row","value"] (zAc s40):= fsc
theorem yCs{f:Addr}(F:DefAt K mg "rest_of_each" s40 f):Callee P w K mg base 1 f ["row","value"] (zAx (RStep 2)):=by
 refine F.callee0 sc40 (zD4 rfl RStep.len) (fun _ _ _ _ _ _=>b2 fun _ _=>rfl) (fun cdv A outer s H vs Q E hr h=>?_)
 obtain⟨l,st,a,rfl,hs,hn,hw,hok,k,k0⟩:=RStep.open h
 obtain⟨c,rfl⟩:∃c,st= .rest c:=by cases st <;> first | exact⟨_,rfl⟩ | (exact absurd hn (by simp[zAy]))
 have hok:1<=c/\c<=9:=hok
 refine⟨_,zAf (zAi (zEh (own:=[("number",2)]) rfl sc40.nd (zBo (pv 0)) (show zCf ["row","value","number"] (zAc s40) _ [("number",2)]from bok)
  (fun s H C cl fp=>zAv (i:=2) sc40.nd rfl (Or.inl rfl)) (fun s H C cl fp=>zB2) (fun s H C cl fp=>zC3 zKy (pv 2) (pv 1)))),?_⟩
 refine (zq rfl ⟨a,rfl,⟨_,SqL.of hs⟩,fun D hD=>zNn (VametBase.restOf c) (SqL.of hs) hD (by have:=zBg hw;omega) (fun x=>rfl) (fun n H' R hn q=>?_) (fun H' e q=>?_)⟩)
 ·refine (zq rfl (zq rfl ⟨_,(zq rfl ⟨rfl,(show(0:Int) < (c:Int) by omega),?_⟩)⟩))
  have e:VametBase.restOf c n=n % (c:Int):=by unfold VametBase.restOf;rw[if_neg (by omega)]
  rw[e]at q
  exact q
 ·exact k H' _ e hD q
noncomputable abbrev s41:Stmt:=top 66
theorem sc41:zAg ["row","value","number"] ["row","value"] (zAc s41):= fsc
theorem yCt{f:Addr}(F:DefAt K mg "without_signs" s41 f)(B:Blt mg):Callee P w K mg base 1 f ["row","value"] (zAx (RStep 3)):=by
 refine F.callee0 sc41 (zD4 rfl RStep.len) (fun _ _ _ _ _ _=>b2 fun _ _=>rfl) (fun cdv A outer s H vs Q E hr h=>?_)
 obtain⟨l,st,a,rfl,hs,hn,hw,hok,k,k0⟩:=RStep.open h
 obtain rfl:st= .abs:=by cases st <;> first | rfl | (exact absurd hn (by simp[zAy]))
 refine⟨_,zAf (zAi (zEh (own:=[("number",2)]) rfl sc41.nd (zBo (pv 0)) (show zCf ["row","value","number"] (zAc s41) _ [("number",2)]from bok)
  (fun s H C cl fp=>zAv (i:=2) sc41.nd rfl (Or.inl rfl)) (fun s H C cl fp=>zB2) (fun s H C cl fp=>zAn zRj (by rfl) B.abs boot_abs (zAa (pv 2) zAd)))),?_⟩
 refine (zq rfl ⟨a,rfl,⟨_,SqL.of hs⟩,fun D hD=>zNn (fun x=>if x < 0 then 0 - x else x) (SqL.of hs) hD (by have:=zBg hw;omega) (fun x=>rfl) (fun n H' R hn q=>?_) (fun H' e q=>?_)⟩)
 ·refine (zq rfl ⟨n,rfl,?_⟩)
  have e:(if n < 0 then 0 - n else n)=if n < 0 then -n else n:=by split <;> omega
  rw[e]at q
  exact q
 ·exact k H' _ e hD q
noncomputable abbrev s42:Stmt:=top 67
theorem yCu:zAg ["row","value"] ["row","value"] (zAc s42):= fsc
theorem yCv{f:Addr}(F:DefAt K mg "rising" s42 f)(B:Blt mg):Callee P w K mg base 1 f ["row","value"] (zAx (RStep 4)):=by
 refine F.callee0 yCu (zD4 rfl RStep.len) (fun _ _ _ _ _ _=>b2 fun _ _=>rfl) (fun cdv A outer s H vs Q E hr h=>?_)
 obtain⟨l,st,a,rfl,hs,hn,hw,hok,k,k0⟩:=RStep.open h
 obtain rfl:st= .sort:=by cases st <;> first | rfl | (exact absurd hn (by simp[zAy]))
 refine⟨_,zAf (zAi (zAn zFu (by rfl) B.sorted boot_sorted (zAa (pv 0) zAd))),?_⟩
 refine (zq rfl ⟨a,l,rfl,SqL.of hs,(by have:=zBg hw;omega),fun ns p hp hq hn=>?_⟩)
 rw[zEc hp hq]
 exact k _ _ (Same.upd hn) hn zAb
noncomputable abbrev s44:Stmt:=top 69
theorem sc44:zAg ["row","value","moved"] ["row","value"] (zAc s44):= fsc
theorem zR5{l:List Int}{k:Nat}(hk:k<=l.length):zO4 (l.map V.int) (some (k:Int)) none=(l.drop k).map V.int:=by
 unfold zO4
 rw[HT.sIx_nat,HT.sIx_none,List.length_map,Nat.min_eq_left hk,List.map_drop]
 exact List.take_of_length_le (by rw[List.length_drop,List.length_map];exact Nat.le_refl _)
theorem zNo{l:List Int}{k:Nat}:zO4 (l.map V.int) none (some (k:Int))=(l.take k).map V.int:=by
 unfold zO4
 rw[HT.sIx_nat,HT.sIx_none,List.length_map,List.drop_zero,List.map_take,Nat.sub_zero]
 by_cases h:k<=l.length
 ·rw[Nat.min_eq_left h]
 ·rw[Nat.min_eq_right (by omega),List.take_of_length_le (by rw[List.length_map];exact Nat.le_refl _),List.take_of_length_le (by rw[List.length_map];omega)]
theorem zFy{l:List Int}{k:Nat}:zO4 (l.map V.int) (some (k:Int)) none=(l.drop k).map V.int:=by
 by_cases h:k<=l.length
 ·exact zR5 h
 ·unfold zO4
  rw[HT.sIx_nat,HT.sIx_none,List.length_map,Nat.min_eq_right (by omega),Nat.sub_self,List.take_zero,List.drop_of_length_le (by omega)]
  rfl
theorem yCw{f:Addr}(F:DefAt K mg "rotated" s44 f)(B:Blt mg):Callee P w K mg base 1 f ["row","value"] (zAx (RStep 6)):=by
 refine F.callee0 sc44 (zD4 rfl RStep.len) (fun _ _ _ _ _ _=>b2 fun _ _=>rfl) (fun cdv A outer s H vs Q E hr h=>?_)
 obtain⟨l,st,a,rfl,hs,hn,hw,hok,k,k0⟩:=RStep.open h
 obtain⟨c,rfl⟩:∃c,st= .rotate c:=by cases st <;> first | exact⟨_,rfl⟩ | (exact absurd hn (by simp[zAy]))
 refine⟨_,zAe (zCk (zE3 (zBb (pv 0) (fun _=>rfl))) (zAf (zAi (pv 0))) zA5)
  (zAe (zAq (i:=2) sc44.nd rfl (Or.inl rfl) (zC3 zKy (pv 1) (zAn zAk (by rfl) B.len PySem.boot_len (zAa (pv 0) zAd))))
  (zAf (zAi (zC3 zK6 (zEp zGc (pv 0) (zGb (pv 2)) zGa) (zEp zGc (pv 0) zGa (zGb (pv 2))))))),?_⟩
 refine (zq rfl ⟨_,.inl ⟨_,SqL.of hs,rfl⟩,?_⟩)
 cases l with
 | nil=>
  refine (zq rfl ?_)
  have e:done (.rotate c) [] = []:=by simp[VametBase.done]
  exact k0 e
 | cons x l=>
  have hc:c % (x::l).length<=(x::l).length:=Nat.le_of_lt (Nat.mod_lt _ (Nat.succ_pos _))
  have ei:(c:Int) % (((x::l).map V.int).length:Int)=((c % (x::l).length:Nat):Int):=by rw[List.length_map];rfl
  have e:done (.rotate c) (x::l)=(x::l).drop (c % (x::l).length) ++ (x::l).take (c % (x::l).length):=by
   show List.drop (c % Nat.max 1 (x::l).length) (x::l) ++List.take (c % Nat.max 1 (x::l).length) (x::l)= _
   rw[show Nat.max 1 (x::l).length=(x::l).length from Nat.max_eq_right (Nat.succ_pos _)]
  rw[e]at k
  refine (zq rfl (zq rfl ⟨a,(zq rfl ⟨.inl (SqL.of hs),_,(zq rfl ⟨rfl,(by rw[List.length_map];show(0:Int) < ((l.length+1:Nat):Int);omega),?_⟩)⟩)⟩))
  generalize hj:c % (x::l).length=j at hc k ei
  refine (zq rfl (zq rfl ⟨(j:Int),congrArg V.int ei,a,(zq rfl ⟨SqL.of hs,fun p hp=>?_⟩)⟩))
  have hs1:upd H p (.lst (zO4 ((x::l).map V.int) (some (j:Int)) none)) a=some (.lst ((x::l).map V.int)):=Same.upd hp _ _ hs
  refine (zq rfl (zq rfl ⟨(j:Int),congrArg V.int ei,a,(zq rfl ⟨SqL.of hs1,fun q hq=>?_⟩)⟩))
  have hpq:p≠q:=zAo zAb hq
  refine ⟨p,q,_,(zq rfl ⟨rfl,(by rw[zAj hpq];exact zAb),zAb,?_,fun r hr=>?_⟩)⟩
  ·rw[zFy,zNo,List.length_map,List.length_map,List.length_drop,List.length_take]
   have:=zBg hw
   exact zEa (by omega)
  ·refine k _ _ (((Same.upd hp).trans (Same.upd hq)).trans (Same.upd hr)) (((Same.upd hp).trans (Same.upd hq)).free hr) ?_
   rw[zAb,zFy,zNo,List.map_append]
end
open VametBase (done within)
section
variable {K:PySem.W.Frag}
theorem zQd{a D:Addr}{l:List Int}{i:Nat}{tt:TT}{te:TE}{vs:List Nat}{σ:L2.St}{H1:Hp}{Qd:Hp->Prop}(p:Int->Bool)(hs:SqL K H1 a (l.map V.int))(hD:H1 D=none)(hl:l.length<=100000)
  (hw:∀x,zCi ((zCi σ vs).set i x) vs=zCi σ vs) (test:∀n H' (R:Bool->Hp->Prop),n∈l->R (p n) H'->tt ((zCi σ vs).set i (some (.int n))) H' R)
  (turn:∀n H' (R:VK),n∈l->R (.int n) H'->te ((zCi σ vs).set i (some (.int n))) H' R)
  (fin:∀H',Same H1 H'->H' D=some (.lst ((l.filter p).map V.int))->Qd H'):
  ∃W:Nat->Nat->Hp->Prop,(∃m,W 0 m (upd H1 D (.lst [])))/\∀i' m H,W i' m H->
   ((Itl K a).stop i' H/\Qd H)\/((Itl K a).go i' H/\∃Nx:Hp->Prop,(∀H',Nx H'->∃m',m' < m/\W (i'+1) m' H')/\∀x H',(Itl K a).yld i' H x H'->zEx i x (zCi σ vs) H' fun σ2 H2=>zCi σ2 vs=zCi σ vs/\tt σ2 H2 fun b H3=>
    if b=true then te σ2 H3 fun y H4=>∃acc,H4 D=some (.lst acc)/\acc.length < sizeLine/\Nx (upd H4 D (.lst (acc++ [y])))else Nx H3):=by
 refine zD0 (xs:=l.map V.int) (fun j H'=>Same H1 H'/\H' D=some (.lst (((l.take j).filter p).map V.int))) ⟨Same.upd hD,zAb⟩ (fun j H' _ h=>h.1.seq hs) (fun j x H' hx h=>?_) (fun H' h=>?_)
 ·obtain⟨n,hn,rfl⟩:∃n,l[j]? =some n/\x=V.int n:=by
   rw[List.getElem?_map]at hx
   cases e:l[j]? with
   | none=>rw[e]at hx;cases hx
   | some n=>rw[e]at hx;exact⟨n,rfl,(Option.some.inj hx).symm⟩
  have hm:=List.mem_of_getElem? hn
  refine⟨hw _,test n H' _ hm ?_⟩
  cases hp:p n with
  | true=>
   simp only [if_true]
   refine turn n H' _ hm ⟨_,h.2,?_,h.1.updR hD,?_⟩
   ·rw[List.length_map]
    have:=List.length_filter_le p (l.take j)
    rw[List.length_take]at this
    exact zCg (by omega)
   ·rw[zAb,zA2 hn,List.filter_append,List.map_append,List.filter_cons,if_pos hp]
    rfl
  | false=>
   simp only [Bool.false_eq_true,if_false]
   refine⟨h.1,?_⟩
   rw[h.2,zA2 hn,List.filter_append,List.filter_cons,if_neg (by rw[hp];exact Bool.false_ne_true),List.filter_nil,List.append_nil]
 ·rw[List.length_map,List.take_length]at h
  exact fin H' h.1 h.2
end
section
variable {P:Program} {w:World} {K:PySem.W.Frag} {mg:Str->Option Value} {base:Heap}
noncomputable abbrev s45:Stmt:=top 70
theorem yCx:zAg ["row","value"] ["row","value"] (zAc s45):= fsc
theorem yCy{f:Addr}(F:DefAt K mg "first_ones" s45 f):Callee P w K mg base 1 f ["row","value"] (zAx (RStep 7)):=by
 refine F.callee0 yCx (zD4 rfl RStep.len) (fun _ _ _ _ _ _=>b2 fun _ _=>rfl) (fun cdv A outer s H vs Q E hr h=>?_)
 obtain⟨l,st,a,rfl,hs,hn,hw,hok,k,k0⟩:=RStep.open h
 obtain⟨c,rfl⟩:∃c,st= .take c:=by cases st <;> first | exact⟨_,rfl⟩ | (exact absurd hn (by simp[zAy]))
 refine⟨_,zAf (zAi (zEp zGc (pv 0) zGa (zGb (pv 1)))),?_⟩
 refine (zq rfl (zq rfl ⟨(c:Int),rfl,a,(zq rfl ⟨SqL.of hs,fun p hp=>?_⟩)⟩))
 refine k _ _ (Same.upd hp) hp ?_
 rw[zAb,zNo]
 rfl
noncomputable abbrev s46:Stmt:=top 71
theorem yCz:zAg ["row","value"] ["row","value"] (zAc s46):= fsc
theorem yC0{f:Addr}(F:DefAt K mg "behind_first_ones" s46 f):Callee P w K mg base 1 f ["row","value"] (zAx (RStep 8)):=by
 refine F.callee0 yCz (zD4 rfl RStep.len) (fun _ _ _ _ _ _=>b2 fun _ _=>rfl) (fun cdv A outer s H vs Q E hr h=>?_)
 obtain⟨l,st,a,rfl,hs,hn,hw,hok,k,k0⟩:=RStep.open h
 obtain⟨c,rfl⟩:∃c,st= .drop c:=by cases st <;> first | exact⟨_,rfl⟩ | (exact absurd hn (by simp[zAy]))
 refine⟨_,zAf (zAi (zEp zGc (pv 0) (zGb (pv 1)) zGa)),?_⟩
 refine (zq rfl (zq rfl ⟨(c:Int),rfl,a,(zq rfl ⟨SqL.of hs,fun p hp=>?_⟩)⟩))
 refine k _ _ (Same.upd hp) hp ?_
 rw[zAb,zFy]
 rfl
noncomputable abbrev s47:Stmt:=top 72
theorem sc47:zAg ["row","value","number"] ["row","value"] (zAc s47):= fsc
theorem yC1{f:Addr}(F:DefAt K mg "those_above" s47 f):Callee P w K mg base 1 f ["row","value"] (zAx (RStep 9)):=by
 refine F.callee0 sc47 (zD4 rfl RStep.len) (fun _ _ _ _ _ _=>b2 fun _ _=>rfl) (fun cdv A outer s H vs Q E hr h=>?_)
 obtain⟨l,st,a,rfl,hs,hn,hw,hok,k,k0⟩:=RStep.open h
 obtain⟨c,rfl⟩:∃c,st= .above c:=by cases st <;> first | exact⟨_,rfl⟩ | (exact absurd hn (by simp[zAy]))
 refine⟨_,zAf (zAi (zEh (own:=[("number",2)]) rfl sc47.nd (zBo (pv 0)) (show zCf ["row","value","number"] (zAc s47) _ [("number",2)]from bok)
  (fun s H C cl fp=>zAv (i:=2) sc47.nd rfl (Or.inl rfl)) (fun s H C cl fp=>zGe (zA6 zF9 (pv 2) (pv 1) (zA0 _))) (fun s H C cl fp=>pv 2))),?_⟩
 refine (zq rfl ⟨a,rfl,⟨_,SqL.of hs⟩,fun D hD=>zQd (fun x=>decide (c < x)) (SqL.of hs) hD (by have:=zBg hw;omega) (fun x=>rfl) (fun n H' R hn q=>?_) (fun n H' R hn q=>?_) (fun H' e q=>?_)⟩)
 ·exact (zq rfl (zq rfl ⟨_,(zq rfl ⟨rfl,(zq rfl q)⟩)⟩))
 ·exact (zq rfl q)
 ·exact k H' _ e hD q
noncomputable abbrev s49:Stmt:=top 74
theorem yC2:zAg ["row","value"] ["row","value"] (zAc s49):= fsc
theorem yC3{f:Addr}(F:DefAt K mg "sum_alone" s49 f)(B:Blt mg):Callee P w K mg base 1 f ["row","value"] (zAx (RStep 11)):=by
 refine F.callee0 yC2 (zD4 rfl RStep.len) (fun _ _ _ _ _ _=>b2 fun _ _=>rfl) (fun cdv A outer s H vs Q E hr h=>?_)
 obtain⟨l,st,a,rfl,hs,hn,hw,hok,k,k0⟩:=RStep.open h
 obtain rfl:st= .sum:=by cases st <;> first | rfl | (exact absurd hn (by simp[zAy]))
 refine⟨_,zAf (zAi (zA4 (zAa (zAn (zVv rfl) (by rfl) B.sum boot_sum (zAa (pv 0) zAd)) zAd))),?_⟩
 refine (zq rfl ⟨a,l,rfl,SqL.of hs,(by show 1<=sizeLine;decide),fun p hp=>?_⟩)
 have e:done .sum l= [l.sum]:=by show [VametBase.total l] = _;rw[zRc]
 rw[e]at k
 exact k _ _ (Same.upd hp) hp zAb
noncomputable abbrev s50:Stmt:=top 75
theorem yC4:zAg ["row","value"] ["row","value"] (zAc s50):= fsc
theorem yC5{f:Addr}(F:DefAt K mg "greatest_alone" s50 f)(B:Blt mg):Callee P w K mg base 1 f ["row","value"] (zAx (RStep 12)):=by
 refine F.callee0 yC4 (zD4 rfl RStep.len) (fun _ _ _ _ _ _=>b2 fun _ _=>rfl) (fun cdv A outer s H vs Q E hr h=>?_)
 obtain⟨l,st,a,rfl,hs,hn,hw,hok,k,k0⟩:=RStep.open h
 obtain rfl:st= .greatest:=by cases st <;> first | rfl | (exact absurd hn (by simp[zAy]))
 refine⟨_,zAf (zAi (zDf (zBb (pv 0) (fun _=>rfl)) (zA4 (zAa (zAn (zS3 rfl) (by rfl) B.max boot_max (zAa (pv 0) zAd)) zAd)) (zA4 zAd))),?_⟩
 refine (zq rfl ⟨_,.inl ⟨_,SqL.of hs,rfl⟩,?_⟩)
 cases l with
 | nil=>
  refine zG3 ⟨(by show 0<=sizeLine;decide),fun p hp=>?_⟩
  exact k _ _ (Same.upd hp) hp zAb
 | cons x l=>
  refine zE6 (zq rfl ⟨a,x::l,rfl,SqL.of hs,Nat.succ_pos _,fun m hm hle=>⟨(by show 1<=sizeLine;decide),fun p hp=>?_⟩⟩)
  have e:done .greatest (x::l)= [m]:=by show(VametBase.greatestOf (x::l)).toList= _;rw[zL9 hm hle];rfl
  rw[e]at k
  exact k _ _ (Same.upd hp) hp zAb
noncomputable abbrev s51:Stmt:=top 76
theorem yC6:zAg ["row","value"] ["row","value"] (zAc s51):= fsc
theorem yC7{f:Addr}(F:DefAt K mg "least_alone" s51 f)(B:Blt mg):Callee P w K mg base 1 f ["row","value"] (zAx (RStep 13)):=by
 refine F.callee0 yC6 (zD4 rfl RStep.len) (fun _ _ _ _ _ _=>b2 fun _ _=>rfl) (fun cdv A outer s H vs Q E hr h=>?_)
 obtain⟨l,st,a,rfl,hs,hn,hw,hok,k,k0⟩:=RStep.open h
 obtain rfl:st= .least:=by cases st <;> first | rfl | (exact absurd hn (by simp[zAy]))
 refine⟨_,zAf (zAi (zDf (zBb (pv 0) (fun _=>rfl)) (zA4 (zAa (zAn (zPq rfl) (by rfl) B.min boot_min (zAa (pv 0) zAd)) zAd)) (zA4 zAd))),?_⟩
 refine (zq rfl ⟨_,.inl ⟨_,SqL.of hs,rfl⟩,?_⟩)
 cases l with
 | nil=>
  refine zG3 ⟨(by show 0<=sizeLine;decide),fun p hp=>?_⟩
  exact k _ _ (Same.upd hp) hp zAb
 | cons x l=>
  refine zE6 (zq rfl ⟨a,x::l,rfl,SqL.of hs,Nat.succ_pos _,fun m hm hle=>⟨(by show 1<=sizeLine;decide),fun p hp=>?_⟩⟩)
  have e:done .least (x::l)= [m]:=by show(VametBase.leastOf (x::l)).toList= _;rw[zRb hm hle];rfl
  rw[e]at k
  exact k _ _ (Same.upd hp) hp zAb
noncomputable abbrev s52:Stmt:=top 77
theorem yC8:zAg ["row","value"] ["row","value"] (zAc s52):= fsc
theorem yC9{f:Addr}(F:DefAt K mg "count_alone" s52 f)(B:Blt mg):Callee P w K mg base 1 f ["row","value"] (zAx (RStep 14)):=by
 refine F.callee0 yC8 (zD4 rfl RStep.len) (fun _ _ _ _ _ _=>b2 fun _ _=>rfl) (fun cdv A outer s H vs Q E hr h=>?_)
 obtain⟨l,st,a,rfl,hs,hn,hw,hok,k,k0⟩:=RStep.open h
 obtain rfl:st= .count:=by cases st <;> first | rfl | (exact absurd hn (by simp[zAy]))
 refine⟨_,zAf (zAi (zA4 (zAa (zAn zAk (by rfl) B.len PySem.boot_len (zAa (pv 0) zAd)) zAd))),?_⟩
 refine (zq rfl ⟨a,(zq rfl ⟨.inl (SqL.of hs),(by show 1<=sizeLine;decide),fun p hp=>?_⟩)⟩)
 refine k _ _ (Same.upd hp) hp ?_
 rw[zAb,List.length_map]
 rfl
noncomputable abbrev s54:Stmt:=top 79
theorem sc54:zAg ["row","value","sums","total","number"] ["row","value"] (zAc s54):= fsc
theorem yDa{f:Addr}(F:DefAt K mg "running_sums" s54 f):Callee P w K mg base 1 f ["row","value"] (zAx (RStep 16)):=by
 refine F.callee0 sc54 (zD4 rfl RStep.len) (fun _ _ _ _ _ _=>b2 fun _ _=>rfl) (fun cdv A outer s H vs Q E hr h=>?_)
 obtain⟨l,st,a,rfl,hs,hn,hw,hok,k,k0⟩:=RStep.open h
 obtain rfl:st= .sums:=by cases st <;> first | rfl | (exact absurd hn (by simp[zAy]))
 have hlen:=zBg hw
 refine⟨_,zAe (zAq (i:=2) sc54.nd rfl (Or.inl rfl) (zA4 zAd)) (zAe (zAq (i:=3) sc54.nd rfl (Or.inl rfl) zAp)
  (zAe (zC9 PassesOwn.never rfl (zBo (pv 0)) (zAv (i:=4) sc54.nd rfl (Or.inl rfl))
   (zAe (zPe (i:=3) sc54.nd rfl (Or.inl rfl) (pv 4) zS2) (zAf (zC8 (zFc PySem.F.plainAttrs_list PySem.F.slot_list_append PySem.F.type_list_append zEf (pv 2) (zAa (pv 3) zAd))))))
  (zAf (zAi (pv 2))))),?_⟩
 refine⟨(by show 0<=sizeLine;decide),fun D hD=>?_⟩
 refine⟨_,rfl,a,rfl,⟨_,SqL.of (Same.upd hD _ _ hs)⟩,zDx (K:=K) (a:=a) (xs:=l.map V.int) (fun i σ H'=>∃v:Option V,σ= [some (.ref a),some (.int 0),some (.ref D),some (.int (l.take i).sum),v]/\Same H H'/\H' D=some (.lst ((VametBase.runningFrom 0 (l.take i)).map V.int)))
  ⟨none,rfl,Same.upd hD,zAb⟩ (fun i σ H' _ ⟨_,_,e,_⟩=>SqL.of (e _ _ hs)) ?_ ?_⟩
 ·rintro i y σ H' hi ⟨v,rfl,e,hq⟩
  obtain⟨n,hn,rfl⟩:∃n,l[i]? =some n/\y=V.int n:=by
   rw[List.getElem?_map]at hi
   cases e:l[i]? with
   | none=>rw[e]at hi;cases hi
   | some n=>rw[e]at hi;exact⟨n,rfl,(Option.some.inj hi).symm⟩
  have e1:(l.take (i+1)).sum=(l.take i).sum+n:=by rw[zA2 hn,List.sum_append];simp
  have hl2:(VametBase.runningFrom 0 (l.take i)).length<=40:=by
   have:∀(m:List Int) (z:Int),(VametBase.runningFrom z m).length=m.length:=by
    intro m
    induction m with
    | nil=>intro z;rfl
    | cons q m ih=>intro z;show(_::VametBase.runningFrom (z+q) m).length= _;rw[List.length_cons,ih,List.length_cons]
   rw[this,List.length_take]
   omega
  refine (zq rfl (zq rfl ⟨_,(zq rfl ⟨rfl,?_⟩)⟩))
  refine (zq rfl ⟨.inl ⟨rfl,_,SqL.of hq⟩,(zq rfl ⟨D,_,(zq rfl ⟨rfl,hq,(by rw[List.length_map];exact zCg (by omega)),?_⟩)⟩)⟩)
  refine⟨some (.int n),?_,e.updR hD,?_⟩
  ·rw[e1];rfl
  ·rw[zAb,zA2 hn,zGn,List.map_append]
   show some (HO.lst (_++ [V.int ((l.take i).sum+n)]))=some (HO.lst (_++ [V.int (0+ (l.take i).sum+n)]))
   rw[Int.zero_add]
 ·rintro σ H' ⟨v,rfl,e,hq⟩
  rw[List.length_map,List.take_length]at hq
  exact (zq rfl (k H' _ e hD hq))
noncomputable abbrev s55:Stmt:=top 80
theorem yDb:zAg ["row","value"] ["row","value"] (zAc s55):= fsc
theorem yDc{f:Addr}(F:DefAt K mg "twice_over" s55 f):Callee P w K mg base 1 f ["row","value"] (zAx (RStep 17)):=by
 refine F.callee0 yDb (zD4 rfl RStep.len) (fun _ _ _ _ _ _=>b2 fun _ _=>rfl) (fun cdv A outer s H vs Q E hr h=>?_)
 obtain⟨l,st,a,rfl,hs,hn,hw,hok,k,k0⟩:=RStep.open h
 obtain rfl:st= .twice:=by cases st <;> first | rfl | (exact absurd hn (by simp[zAy]))
 refine⟨_,zAf (zAi (zC3 zK6 (pv 0) (pv 0))),?_⟩
 refine (zq rfl (zq rfl ⟨a,a,_,(zq rfl ⟨rfl,hs,hs,(by have:=zBg hw;rw[List.length_map];exact zEa (by omega)),fun p hp=>?_⟩)⟩))
 refine k _ _ (Same.upd hp) hp ?_
 rw[zAb,<-List.map_append]
 rfl
end
open VametBase (done within)
section
variable {P:Program} {w:World} {K:PySem.W.Frag} {mg:Str->Option Value} {base:Heap}
noncomputable abbrev s43:Stmt:=top 68
theorem yDd:zAg ["row","value"] ["row","value"] (zAc s43):= fsc
theorem yDe{f:Addr}(F:DefAt K mg "turned_round" s43 f):Callee P w K mg base 1 f ["row","value"] (zAx (RStep 5)):=by
 refine F.callee0 yDd (zD4 rfl RStep.len) (fun _ _ _ _ _ _=>b2 fun _ _=>rfl) (fun cdv A outer s H vs Q E hr h=>?_)
 obtain⟨l,st,a,rfl,hs,hn,hw,hok,k,k0⟩:=RStep.open h
 obtain rfl:st= .reverse:=by cases st <;> first | rfl | (exact absurd hn (by simp[zAy]))
 refine⟨_,zAf (zAi (zWa (pv 0) (zIg zE5 zAp))),?_⟩
 refine (zq rfl ⟨1,rfl,a,(zq rfl ⟨rfl,SqL.of hs,fun p hp=>?_⟩)⟩)
 refine k _ _ (Same.upd hp) hp ?_
 rw[zAb,<-List.map_reverse]
 rfl
noncomputable def zEk(l:List Int):List (Key×V):=(VametBase.onceOnly l).map fun n=>(Sum.inl n,V.bl true)
theorem zNp(l:List Int)(x:Int):(zFg (zEk l) (Sum.inl x)).isSome=decide (x∈l):=by
 rw[<-zD1]
 unfold zEk
 rw[List.any_map,Bool.eq_iff_iff,List.any_eq_true,decide_eq_true_iff]
 constructor
 ·rintro⟨n,hn,e⟩
  have e:(Sum.inl n:Key)=Sum.inl x:=of_decide_eq_true e
  rw[<-Sum.inl.inj e]
  exact mem_once.mp hn
 ·intro h
  exact⟨x,mem_once.mpr h,decide_eq_true rfl⟩
theorem zR6(l:List Int)(x:Int):zG2 (zEk l) (Sum.inl x) (V.bl true)=zEk (l++ [x]):=by
 have e:=zJi l x
 by_cases h:x∈l
 ·rw[if_pos h]at e
  have ha:((zEk l).any fun kv=>decide (kv.1=Sum.inl x))=true:=by rw[zD1,zNp,decide_eq_true h]
  unfold zG2
  rw[if_pos ha]
  unfold zEk
  rw[e,List.map_map]
  refine List.map_congr_left fun n _=>?_
  show(if (Sum.inl n:Key)=Sum.inl x then((Sum.inl n:Key),V.bl true)else(Sum.inl n,V.bl true))= _
  split <;> rfl
 ·rw[if_neg h]at e
  have hv:zFg (zEk l) (Sum.inl x)=none:=by
   have:=zNp l x
   rw[decide_eq_false h]at this
   exact Option.isSome_eq_false_iff.mp this |> Option.isNone_iff_eq_none.mp
  rw[zJq _ hv]
  unfold zEk
  rw[e,List.map_append]
  rfl
noncomputable abbrev s48:Stmt:=top 73
theorem sc48:zAg ["row","value","seen","number"] ["row","value"] (zAc s48):= fsc
theorem yDf{f:Addr}(F:DefAt K mg "each_once" s48 f)(B:Blt mg):Callee P w K mg base 1 f ["row","value"] (zAx (RStep 10)):=by
 refine F.callee0 sc48 (zD4 rfl RStep.len) (fun _ _ _ _ _ _=>b2 fun _ _=>rfl) (fun cdv A outer s H vs Q E hr h=>?_)
 obtain⟨l,st,a,rfl,hs,hn,hw,hok,k,k0⟩:=RStep.open h
 obtain rfl:st= .once:=by cases st <;> first | rfl | (exact absurd hn (by simp[zAy]))
 have hlen:=zBg hw
 refine⟨_,zAe (zAq (i:=2) sc48.nd rfl (Or.inl rfl) zNd)
  (zAe (zC9 PassesOwn.never rfl (zBo (pv 0)) (zAv (i:=3) sc48.nd rfl (Or.inl rfl)) (zAf (zMq (zMr hr) (pv 2) (pv 3) zHn rfl)))
  (zAf (zAi (zEe (zOn rfl) (by rfl) B.list (by decide +kernel) (zAa (pv 2) zAd))))),?_⟩
 intro d hd
 refine⟨_,rfl,a,rfl,⟨_,SqL.of (Same.upd hd _ _ hs)⟩,zDx (K:=K) (a:=a) (xs:=l.map V.int) (fun i σ H'=>∃v:Option V,σ= [some (.ref a),some (.int 0),some (.ref d),v]/\Same H H'/\H' d=some (.dK (zEk (l.take i))))
  ⟨none,rfl,Same.upd hd,zAb⟩ (fun i σ H' _ ⟨_,_,e,_⟩=>SqL.of (e _ _ hs)) ?_ ?_⟩
 ·rintro i y σ H' hi ⟨v,rfl,e,hq⟩
  obtain⟨n,hn,rfl⟩:∃n,l[i]? =some n/\y=V.int n:=by
   rw[List.getElem?_map]at hi
   cases e:l[i]? with
   | none=>rw[e]at hi;cases hi
   | some n=>rw[e]at hi;exact⟨n,rfl,(Option.some.inj hi).symm⟩
  refine (zq rfl (zq rfl ⟨d,(zq rfl ⟨DPut.k (k:=Sum.inl n) hq ?_,?_⟩)⟩))
  ·unfold zEk
   rw[List.length_map]
   have:=zEz (l.take i)
   rw[List.length_take]at this
   exact zCg (by omega)
  ·refine⟨some (.int n),rfl,e.updR hd,?_⟩
   rw[zAb,zR6,zA2 hn]
 ·rintro σ H' ⟨v,rfl,e,hq⟩
  rw[List.length_map,List.take_length]at hq
  refine (zq rfl ⟨d,(zq rfl ⟨hq,fun p hp=>?_⟩)⟩)
  refine k _ _ (e.trans (Same.upd hp)) (e.free hp) ?_
  rw[zAb]
  unfold zEk
  rw[List.map_map]
  rfl
noncomputable abbrev s53:Stmt:=top 78
theorem sc53:zAg ["row","value","first","second"] ["row","value"] (zAc s53):= fsc
theorem yDg{f:Addr}(F:DefAt K mg "differences" s53 f)(B:Blt mg):Callee P w K mg base 1 f ["row","value"] (zAx (RStep 15)):=by
 refine F.callee0 sc53 (zD4 rfl RStep.len) (fun _ _ _ _ _ _=>b2 fun _ _=>rfl) (fun cdv A outer s H vs Q E hr h=>?_)
 obtain⟨l,st,a,rfl,hs,hn,hw,hok,k,k0⟩:=RStep.open h
 obtain rfl:st= .steps:=by cases st <;> first | rfl | (exact absurd hn (by simp[zAy]))
 have hlen:=zBg hw
 refine⟨_,zAf (zAi (zEh (own:=[("first",2),("second",3)]) (g:=zX2 K 2 (zKv (zEx 2) (zKv (zEx 3) zX1))) rfl sc53.nd (zS8 (by rfl) B.zip (zAa (pv 0) (zAa (zEp zGc (pv 0) (zGb zAp) zGa) zAd)))
  (show zCf ["row","value","first","second"] (zAc s53) _ [("first",2),("second",3)]from bok)
  (fun s H C cl fp=>zKw (n:=2) rfl (zCn (zAv (i:=2) sc53.nd rfl (Or.inl rfl) (Or.inr rfl)) (zCn (zAv (i:=3) sc53.nd rfl (Or.inl rfl) (Or.inr rfl)) zHq))) (fun s H C cl fp=>zB2) (fun s H C cl fp=>zC3 zKx (pv 3) (pv 2)))),?_⟩
 refine (zq rfl (zq rfl ⟨1,rfl,a,(zq rfl ⟨SqL.of hs,fun p hp=>?_⟩)⟩))
 have ec:zO4 (l.map V.int) (some 1) none=(l.drop 1).map V.int:=zFy (k:=1)
 rw[ec]
 have hp1:upd H p (.lst ((l.drop 1).map V.int)) p=some (.lst ((l.drop 1).map V.int)):=zAb
 refine⟨a,p,l.map V.int,(l.drop 1).map V.int,rfl,SqL.of (Same.upd hp _ _ hs),SqL.of hp1,fun D hD=>?_⟩
 refine zTa (xs:=l.map V.int) (ys:=(l.drop 1).map V.int) (fun i H'=>Same (upd H p (.lst ((l.drop 1).map V.int))) H'/\H' D=some (.lst (((l.zip (l.drop 1)).take i).map fun z=>V.int (z.2 - z.1))))
  ⟨Same.upd hD,zAb⟩ (fun i H' h=>⟨SqL.of (h.1 _ _ (Same.upd hp _ _ hs)),SqL.of (h.1 _ _ hp1)⟩) ?_ ?_
 ·rintro i x y T H' hx hy ⟨e,hq⟩ hT
  obtain⟨n,hn,rfl⟩:∃n,l[i]? =some n/\x=V.int n:=by
   rw[List.getElem?_map]at hx
   cases e:l[i]? with
   | none=>rw[e]at hx;cases hx
   | some n=>rw[e]at hx;exact⟨n,rfl,(Option.some.inj hx).symm⟩
  obtain⟨m,hm,rfl⟩:∃n,(l.drop 1)[i]? =some n/\y=V.int n:=by
   rw[List.getElem?_map]at hy
   cases e:(l.drop 1)[i]? with
   | none=>rw[e]at hy;cases hy
   | some n=>rw[e]at hy;exact⟨n,rfl,(Option.some.inj hy).symm⟩
  have hz:(l.zip (l.drop 1))[i]? =some (n,m):=List.getElem?_zip_eq_some.mpr ⟨hn,hm⟩
  have hTD:D≠T:=zAo hq hT
  refine ⟨T,(zq rfl ⟨SqT.of zAb,rfl,_,(zq rfl ⟨_,(zq rfl ⟨rfl,rfl,?_⟩)⟩)⟩)⟩
  simp only [zNb,if_true]
  have hq2:upd H' T (.tup [V.int n,V.int m]) D=some (.lst (((l.zip (l.drop 1)).take i).map fun z=>V.int (z.2 - z.1))):=by rw[zAj hTD];exact hq
  refine (zq rfl (zq rfl ⟨_,(zq rfl ⟨rfl,_,hq2,?_,(e.trans (Same.upd hT)).updR hD,?_⟩)⟩))
  ·rw[List.length_map,List.length_take,List.length_zip]
   exact zCg (by omega)
  ·rw[zAb,zA2 hz,List.map_append]
   rfl
 ·rintro H' ⟨e,hq⟩
  rw[List.length_map,List.length_map,<-List.length_zip,List.take_length]at hq
  refine k H' _ ((Same.upd hp).trans e) ((Same.upd hp).free hD) ?_
  rw[hq,show done .steps l=(l.zip (l.drop 1)).map fun z=>z.2 - z.1 from rfl,List.map_map]
  rfl
end
open VametBase (done within)
noncomputable abbrev zBc:=VametBase.Program
noncomputable def zDc(mg:Str->Option Value)(x:Str)(i:Int):Prop:=∃t,mg x=some (.int i t)
noncomputable def zEl(s:zDp):WData:= .tuple [.int (zAy s),.int (zCo s)]
noncomputable def zBt(p:zBc):WData:= .tuple (p.map zEl)
noncomputable def zKj:Option zC0->WData
 | none=> .none
 | some l=>zCl l
noncomputable def zBy(p:zBc):Prop:=p.length<=8/\∀s∈p,zI6 s
section
variable {K:PySem.W.Frag}
theorem zR7{a D:Addr}{xs:List V}{i:Nat}{te:TE}{vs:List Nat}{σ:L2.St}{A H1:Hp}{Qd:Hp->Prop}{ds es:List WData}(hA:Same A H1)(ha:H1 a=some (.lst xs))(hx:DmAll A xs ds)(hes:es.length=ds.length)(hD:H1 D=none)(hl:ds.length<=100000)
  (hw:∀x,zCi ((zCi σ vs).set i x) vs=zCi σ vs)
  (turn:∀(j:Nat) x d e A' H' (R:VK),ds[j]? =some d->es[j]? =some e->Same A A'->Same A' H'->Same H1 H'->Dm A x d->(∀H'' v,Same H' H''->Dm (mix A' H' H'') v e->R v H'')->te ((zCi σ vs).set i (some x)) H' R)
  (fin:∀H',Same H1 H'->Dm (mix A H1 H') (.ref D) (.list es)->Qd H'):
  ∃W:Nat->Nat->Hp->Prop,(∃m,W 0 m (upd H1 D (.lst [])))/\∀i' m H,W i' m H->
   ((Itl K a).stop i' H/\Qd H)\/((Itl K a).go i' H/\∃Nx:Hp->Prop,(∀H',Nx H'->∃m',m' < m/\W (i'+1) m' H')/\∀x H',(Itl K a).yld i' H x H'->zEx i x (zCi σ vs) H' fun σ2 H2=>zCi σ2 vs=zCi σ vs/\zNb σ2 H2 fun b H3=>
    if b=true then te σ2 H3 fun y H4=>∃acc,H4 D=some (.lst acc)/\acc.length < sizeLine/\Nx (upd H4 D (.lst (acc++ [y])))else Nx H3):=by
 refine zD0 (xs:=xs) (fun j H'=>Same H1 H'/\∃acc,H' D=some (.lst acc)/\DmAll (wo (mix A H1 H') D) acc (es.take j)) ⟨Same.upd hD,[],zAb,.nil⟩ (fun j H' _ h=>SqL.of (h.1 _ _ ha)) (fun j x H' hxj h=>?_) (fun H' h=>?_)
 ·obtain⟨sm,acc,hq,dq⟩:=h
  obtain⟨d,hd,dx⟩:=hx.get hxj
  obtain⟨e,he⟩:∃e,es[j]? =some e:=by
   have:j < ds.length:=(List.getElem?_eq_some_iff.mp hd).1
   exact⟨_,List.getElem?_eq_getElem (by omega)⟩
  have hj:j < es.length:=(List.getElem?_eq_some_iff.mp he).1
  refine⟨hw _,?_⟩
  simp only [zNb,if_true]
  have sA:Same A (wo (mix A H1 H') D):=fun b o q=>by
   rw[zEj (fun z=>by rw[z]at q;rw[hA _ _ q]at hD;cases hD)]
   exact zBf hA b o q
  refine turn j x d e (wo (mix A H1 H') D) H' _ hd he sA (wo_same.trans (zBs hA sm)) sm dx fun H'' v sm2 dv=>?_
  have q2:H'' D=some (.lst acc):=sm2 _ _ hq
  refine⟨acc,q2,?_,(sm.trans sm2).updR hD,acc++ [v],zAb,?_⟩
  ·rw[dq.length,List.length_take]
   exact zCg (by omega)
  ·rw[zA2 he]
   have e0:wo (mix A H1 (upd H'' D (.lst (acc++ [v])))) D=wo (mix A H1 H'') D:=by
    funext b
    by_cases h:b=D
    ·rw[h,zFh,zFh]
    ·rw[zEj h,zEj h]
     unfold mix
     rw[zAj h]
   rw[e0]
   exact(dq.same (Same.wo (zCz sm2))).snoc (dv.same (zP9 sm sm2 (by rw[hq];rfl)))
 ·obtain⟨sm,acc,hq,dq⟩:=h
  rw[hx.length,<-hes,List.take_length]at dq
  exact fin H' sm (.lst (zAs hD hq) (dq.same wo_same))
end
section
variable {P:Program} {w:World} {K:PySem.W.Frag} {mg:Str->Option Value} {base:Heap}
noncomputable def zQe(ds:List WData)(d:WData):Prop:=∃l:zC0,ds= [zCl l]/\l.length<=1000/\d= .bool (!within l)
theorem zLl{l:zC0}(h:l.length<=40){M m:Int}(hM:M∈l)(hM2:∀a∈l,a<=M)(hm:m∈l)(hm2:∀a∈l,m<=a):(!within l)=(decide (1000000 < M) || decide (m < -1000000)):=by
 unfold VametBase.within VametBase.LONG VametBase.MOST
 rw[decide_eq_true h,Bool.true_and]
 rw[Bool.eq_iff_iff,Bool.not_eq_true',Bool.or_eq_true,decide_eq_true_iff,decide_eq_true_iff]
 constructor
 ·intro e
  by_cases h1:1000000 < M
  ·exact .inl h1
  ·by_cases h2:m < -1000000
   ·exact .inr h2
   ·exfalso
    have:(l.all fun x=>decide (0 - 1000000<=x) &&decide (x<=1000000))=true:=List.all_eq_true.mpr fun x hx=>by
     have a1:=hM2 x hx
     have a2:=hm2 x hx
     rw[Bool.and_eq_true,decide_eq_true_iff,decide_eq_true_iff]
     omega
    rw[this]at e
    cases e
 ·intro e
  rw[Bool.eq_false_iff]
  intro a
  have a1:=List.all_eq_true.mp a M hM
  have a2:=List.all_eq_true.mp a m hm
  rw[Bool.and_eq_true,decide_eq_true_iff,decide_eq_true_iff]at a1 a2
  omega
noncomputable abbrev s58:Stmt:=top 83
theorem yDh:zAg ["row"] ["row"] (zAc s58):= fsc
theorem yDi{f:Addr}(F:DefAt K mg "is_beyond" s58 f)(B:Blt mg)(c1:zDc mg "MOST_NUMBERS" 40)(c2:zDc mg "FARTHEST" 1000000):Callee P w K mg base 1 f ["row"] (zAx zQe):=by
 obtain⟨t1,c1⟩:=c1
 obtain⟨t2,c2⟩:=c2
 refine F.callee0 yDh (zD4 rfl fun ds d ⟨l,e,_⟩=>by rw[e];rfl) (fun _ _ _ _ _ _=>b1 fun _=>rfl) (fun cdv A outer s H vs Q E hr h=>?_)
 obtain⟨Ar,ds,d,sA,hd,⟨l,rfl,hl,rfl⟩,k⟩:=h
 cases hd with
 | cons h1 h2=>
 cases h2
 obtain⟨a,rfl,hs⟩:=Dm.row_inv h1
 have hs:=sA _ _ hs
 refine⟨_,zAe (zCk (zA6 zF9 (zAn zAk (by rfl) B.len PySem.boot_len (zAa (pv 0) zAd)) (zAr (v:= .int 40) (by rfl) c1 ⟨t1,rfl⟩) (zA0 _)) (zAf (zAi zHn)) zA5)
  (zAf (zAi (zIu (zBd zF9 (zAn zAk (by rfl) B.len PySem.boot_len (zAa (pv 0) zAd)) zAp (zA0 _))
   (zE4 (zRf (zBd zF9 (zAn (zS3 rfl) (by rfl) B.max boot_max (zAa (pv 0) zAd)) (zAr (v:= .int 1000000) (by rfl) c2 ⟨t2,rfl⟩) (zA0 _))
    (zE4 (zBd zMg (zAn (zPq rfl) (by rfl) B.min boot_min (zAa (pv 0) zAd)) (zIg zE5 (zAr (v:= .int 1000000) (by rfl) c2 ⟨t2,rfl⟩)) (zA0 _)))))))),?_⟩
 refine (zq rfl ⟨a,(zq rfl ⟨.inl (SqL.of hs),_,(zq rfl ⟨rfl,(zq rfl ?_)⟩)⟩)⟩)
 rw[List.length_map]
 refine zD2 (fun e=>?_) fun e=>?_
 ·have e:(40:Int) < (l.length:Int):=of_decide_eq_true e
  have e2:(!within l)=true:=by
   unfold VametBase.within VametBase.LONG
   rw[decide_eq_false (by omega)]
   rfl
  rw[e2]at k
  exact k H _ (Same.refl H) (.bl true)
 ·have e:¬(40:Int) < (l.length:Int):=fun z=>e (decide_eq_true z)
  refine (zq rfl ⟨a,(zq rfl ⟨.inl (SqL.of hs),_,(zq rfl ⟨rfl,(zq rfl ?_)⟩)⟩)⟩)
  rw[List.length_map]
  refine zD2 (fun e1=>?_) fun e1=>?_
  ·have e1:(0:Int) < (l.length:Int):=of_decide_eq_true e1
   refine (zq rfl ⟨a,l,rfl,SqL.of hs,(by omega),fun M hM hM2=>?_⟩)
   refine ⟨_,(zq rfl ⟨rfl,(zq rfl ?_)⟩)⟩
   refine zD2 (fun e2=>?_) fun e2=>?_
   ·obtain⟨m,hm,hm2⟩:∃m,m∈l/\∀a∈l,m<=a:=by
     cases l with
     | nil=>cases hM
     | cons x l=>exact⟨_,zHf l x⟩
    rw[zLl (by omega) hM hM2 hm hm2,e2,Bool.true_or]at k
    exact k H _ (Same.refl H) (.bl true)
   ·refine (zq rfl ⟨a,l,rfl,SqL.of hs,(by omega),fun m hm hm2=>?_⟩)
    refine (zq rfl ⟨_,(zq rfl ⟨rfl,?_⟩)⟩)
    rw[Bool.not_eq_true]at e2
    rw[zLl (by omega) hM hM2 hm hm2,e2,Bool.false_or]at k
    exact k H _ (Same.refl H) (.bl _)
  ·have e1:¬(0:Int) < (l.length:Int):=fun z=>e1 (decide_eq_true z)
   have e2:l= []:=List.length_eq_zero_iff.mp (by omega)
   subst e2
   exact k H _ (Same.refl H) (.bl false)
end
open VametBase (done within)
section
variable {P:Program} {w:World} {K:PySem.W.Frag} {mg:Str->Option Value} {base:Heap}
structure zQf(P:Program)(w:World)(K:PySem.W.Frag)(mg:Str->Option Value)(base:Heap)(aS:Addr)(fs:List Addr):Prop where
 gl:mg "STEPS" =some (.ref aS)
 tup:∀H:Hp,SqT K H aS (fs.map V.ref)
 len:fs.length=18
 ok:∀(i:Nat) f,fs[i]? =some f->Callee P w K mg base 1 f ["row","value"] (zAx (RStep i))
theorem zI7(s:zDp):zAy s < 18:=by cases s <;> simp[zAy]
theorem zR8{s:zDp}{l:zC0}(h:l.length<=40)(ok:zI6 s):(done s l).length<=1000:=by
 cases s with
 | add c=>show(l.map _).length<=_;rw[List.length_map];omega
 | times c=>show(l.map _).length<=_;rw[List.length_map];omega
 | rest c=>show(l.map _).length<=_;rw[List.length_map];omega
 | abs=>show(l.map _).length<=_;rw[List.length_map];omega
 | sort=>show(VametBase.sorted l).length<=_;rw[zJh];omega
 | reverse=>show l.reverse.length<=_;rw[List.length_reverse];omega
 | rotate k=>
  show(List.drop (k % Nat.max 1 l.length) l++List.take (k % Nat.max 1 l.length) l).length<=_
  rw[List.length_append,List.length_drop,List.length_take];omega
 | take k=>show(l.take k).length<=_;rw[List.length_take];omega
 | drop k=>show(l.drop k).length<=_;rw[List.length_drop];omega
 | above c=>have:=List.length_filter_le (fun x=>decide (c < x)) l;show(l.filter _).length<=_;omega
 | once=>have:=zEz l;show(VametBase.onceOnly l).length<=_;omega
 | sum=>show 1<=_;omega
 | greatest=>show(VametBase.greatestOf l).toList.length<=_;cases VametBase.greatestOf l <;> simp
 | least=>show(VametBase.leastOf l).toList.length<=_;cases VametBase.leastOf l <;> simp
 | count=>show 1<=_;omega
 | steps=>show((l.zip (l.drop 1)).map _).length<=_;rw[List.length_map,List.length_zip];omega
 | sums=>
  have:∀(m:List Int) (z:Int),(VametBase.runningFrom z m).length=m.length:=by
   intro m
   induction m with
   | nil=>intro z;rfl
   | cons q m ih=>intro z;show(_::VametBase.runningFrom (z+q) m).length= _;rw[List.length_cons,ih,List.length_cons]
  show(VametBase.runningFrom 0 l).length<=_
  rw[this];omega
 | twice=>show(l++l).length<=_;rw[List.length_append];omega
noncomputable def yAy(ds:List WData)(d:WData):Prop:=∃(p:zBc) (l:zC0),ds= [zBt p,zCl l]/\zBy p/\within l=true/\d=zKj (VametBase.run p l)
theorem zR9{p:zBc}{i:Nat}{s:zDp}{l:zC0}(h:p[i]? =some s):VametBase.run (p.drop i) l=if within (done s l)then VametBase.run (p.drop (i+1)) (done s l)else none:=by
 rw[List.drop_eq_getElem_cons (List.getElem?_eq_some_iff.mp h).1,(List.getElem?_eq_some_iff.mp h).2]
 rfl
noncomputable abbrev s59:Stmt:=top 84
theorem sc59:zAg ["program","row","number","value","do_step"] ["program","row"] (zAc s59):= fsc
theorem yDj{f fb aS:Addr}{fs:List Addr}(F:DefAt K mg "run" s59 f)(S:zQf P w K mg base aS fs)(mb:mg "is_beyond" =some (.ref fb))(Cb:Callee P w K mg base 1 fb ["row"] (zAx zQe)):Callee P w K mg base 2 f ["program","row"] (zAx yAy):=by
 refine F.callee0 sc59 (zD4 rfl fun ds d ⟨p,l,e,_⟩=>by rw[e];rfl) (fun _ _ _ _ _ _=>b2 fun _ _=>rfl) (fun cdv A outer s H vs Q E hr h=>?_)
 obtain⟨Ar,ds,d,sA,hd,⟨p,l,rfl,hp,hw,rfl⟩,k⟩:=h
 cases hd with
 | cons h1 h2=>
 cases h2 with
 | cons h2 h3=>
 cases h3
 obtain⟨pa,ps,rfl,hpa,hps⟩:=Dm.tup_inv h1
 obtain⟨ra,rfl,hra⟩:=Dm.row_inv h2
 refine⟨_,zAe (zC9 PassesOwn.never rfl (zS0 (pv 0)) (zKw (n:=2) rfl (zCn (zAv (i:=2) sc59.nd rfl (Or.inl rfl)) (zCn (zAv (i:=3) sc59.nd rfl (Or.inl rfl)) zHq)))
   (zAe (zAq (i:=4) sc59.nd rfl (Or.inl rfl) (zBi zBx (zAr (v:= .ref aS) (by rfl) S.gl rfl) (pv 2) (fun _ _=>rfl)))
   (zAe (zAq (i:=1) sc59.nd rfl (Or.inl rfl) (zEs (k:=1) (i:=4) (E:=E0) rfl (Or.inl rfl) hr zAm (zAa (pv 1) (zAa (pv 3) zAd))))
   (zAf (zCk (zBb (zAh (E:=E0) Cb hr (by rfl) mb zAm (zAa (pv 1) zAd)) (fun _=>rfl)) (zAf (zAi zE2)) zA5)))))
  (zAf (zAi (pv 1))),?_⟩
 refine⟨_,rfl,pa,rfl,⟨_,SqT.of (sA _ _ hpa)⟩,zPj (K:=K) (a:=pa) (xs:=ps) (fun i σ H'=>∃(a:Addr) (v2 v3 v4:Option V) (li:zC0),σ= [some (.ref pa),some (.ref a),v2,v3,v4]/\Same H H'/\Dm (mix Ar H H') (.ref a) (zCl li)/\within li=true/\VametBase.run p l=VametBase.run (p.drop i) li)
  ⟨ra,none,none,none,l,rfl,Same.refl H,(h2.same (zBf sA)),hw,rfl⟩ (fun i σ H' _ ⟨_,_,_,_,_,_,e,_⟩=>SqT.of (e _ _ (sA _ _ hpa))) ?_ ?_⟩
 ·rintro i y σ H' hi ⟨a,v2,v3,v4,li,rfl,e,da,hwi,hrun⟩
  obtain⟨d,hdi,dy⟩:=hps.get hi
  rw[List.getElem?_map]at hdi
  obtain⟨st,hst,rfl⟩:∃st,p[i]? =some st/\d=zEl st:=by
   cases q:p[i]? with
   | none=>rw[q]at hdi;cases hdi
   | some st=>rw[q]at hdi;exact⟨st,rfl,(Option.some.inj hdi).symm⟩
  have hok:=hp.2 st (List.mem_of_getElem? hst)
  obtain⟨T,rfl,hT⟩:=Dm.pair_inv dy
  have hT':=e _ _ (sA _ _ hT)
  obtain⟨f1,hf1⟩:∃f1,fs[zAy st]? =some f1:=⟨_,List.getElem?_eq_getElem (by rw[S.len];exact zI7 st)⟩
  refine ⟨T,(zq rfl ⟨SqT.of hT',rfl,_,(zq rfl ⟨_,(zq rfl ⟨rfl,?_⟩)⟩)⟩)⟩
  refine (zq rfl ⟨aS,_,_,(zq rfl ⟨rfl,S.tup _,zAw (v:=V.ref f1) (by rw[List.getElem?_map,hf1];rfl),?_⟩)⟩)
  refine ⟨f1,_,(zq rfl ⟨S.ok _ _ hf1,(zq rfl (zq rfl ?_))⟩)⟩
  refine⟨mix Ar H H',_,_,zBs sA e,.cons da (.cons (.int _) .nil),⟨li,st,rfl,rfl,hwi,hok,rfl⟩,fun H2 v2' e2 dv=>?_⟩
  have dv2:=dv.same (zP8 e e2)
  refine (zq rfl ?_)
  refine⟨mix Ar H H2,_,_,zBs sA (e.trans e2),.cons dv2 .nil,⟨done st li,rfl,zR8 (zBg hwi) hok,rfl⟩,fun H3 v3' e3 db=>?_⟩
  obtain rfl:=Dm.bl_inv db
  obtain⟨a2,rfl,_⟩:=Dm.row_inv dv2
  refine (zq rfl ?_)
  have hr1:=zR9 (l:=li) hst
  cases hwd:within (done st li)with
  | true=>
   rw[hwd,if_pos rfl]at hr1
   refine zG3 ?_
   exact⟨a2,_,_,_,done st li,rfl,(e.trans e2).trans e3,dv2.same (zCz e3),hwd,hrun.trans hr1⟩
  | false=>
   rw[hwd,if_neg Bool.false_ne_true]at hr1
   refine zE6 ?_
   rw[hrun,hr1]at k
   exact k H3 _ ((e.trans e2).trans e3) .non
 ·rintro σ H' ⟨a,v2,v3,v4,li,rfl,e,da,hwi,hrun⟩
  have hlen:ps.length=p.length:=by rw[hps.length,List.length_map]
  rw[hlen,List.drop_length]at hrun
  rw[hrun]at k
  exact (zq rfl (k H' _ e da))
end
end Rf
namespace L2
open PySem PySem.Spec PyProof.Rows
theorem zMt{K:PySem.W.Frag}{H:Hp}:∀ns:List Int,zMm K H (ns.map V.int) (ns.map PyData.int)
 | []=> .nil
 | n::r=> .cons (.int n) (zMt r)
theorem zLm:∀l m:List Int,PyData.eqvAll (l.map PyData.int) (m.map PyData.int)=decide (l=m)
 | [],[]=>by simp[PyData.eqvAll]
 | [],y::m=>by simp[PyData.eqvAll]
 | x::l,[]=>by simp[PyData.eqvAll]
 | x::l,y::m=>by
  show(PyData.eqv (.int x) (.int y) &&PyData.eqvAll (l.map PyData.int) (m.map PyData.int))= _
  rw[zLm l m,show PyData.eqv (.int x) (.int y)=(x == y) by simp[PyData.eqv]]
  by_cases h:x=y
  ·subst h;simp
  ·have e:(x == y)=false:=beq_eq_false_iff_ne.mpr h
   rw[e,decide_eq_false (fun z=>h (List.cons.inj z).1)]
   rfl
theorem zNq:∀l:List Int,PyData.canLayAll0 (l.map PyData.int)=true
 | []=>by simp[PyData.canLayAll0]
 | x::l=>by simp only [List.map_cons,PyData.canLayAll0,PyData.canLay0,zNq l,Bool.and_self]
theorem zI8:∀l:List Int,PyData.depthAll (l.map PyData.int)=0
 | []=>by simp[PyData.depthAll]
 | x::l=>by simp only [List.map_cons,PyData.depthAll,PyData.depth,zI8 l,Nat.max_self]
theorem zH4(l:List Int):SeqAt.shaped (.list (l.map PyData.int))=true:=by
 unfold SeqAt.shaped
 rw[show PyData.canLay0 (.list (l.map PyData.int))=true by simp only [PyData.canLay0,zNq],show PyData.depth (.list (l.map PyData.int))=1 by simp only [PyData.depth,zI8]]
 rfl
theorem zFz{X:Cx}(hu:X.A.units+64 < cLine):OpR X (compareOp .Eq) (fun x y H Q=>∃a b l m,x= .ref a/\y= .ref b/\SqL X.K H a (List.map V.int l)/\SqL X.K H b (List.map V.int m)/\Q (.bl (decide (l=m))) H):=by
 intro pins s σ H x y v u Q I rx ry h
 obtain⟨a,b,l,m,rfl,rfl,ha,hb,q⟩:=h
 refine zNa hu pins s σ H _ _ v u Q I rx ry ⟨_,_,.lst ha (zMt l),.lst hb (zMt m),zH4 l,zH4 m,?_⟩
 rw[show PyData.eqv (.list (l.map PyData.int)) (.list (m.map PyData.int))=PyData.eqvAll (l.map PyData.int) (m.map PyData.int) by simp[PyData.eqv],zLm]
 exact q
theorem zUk{X:Cx}{a:Expr}{ta:TE}{pos:Pos}(ha:PE X a ta):PE X (.UnaryOp .Not a pos) (fun σ H Q=>ta σ H fun x H1=>∃k,zRi X.K x H1 k/\Q (.bl (!k)) H1):=by
 intro pins s σ H Q I h
 refine UnaryOp_ (thn (ha pins s σ H _ I h) fun v s1 ⟨x,H1,I1,r1,k,t1,q1⟩=>?_)
 exact not_of (thn (zS1 pins s1 σ H1 x v (fun b H2=>b=k/\H2=H1) I1 r1 ⟨k,t1,rfl,rfl⟩) fun b s2 ⟨H2,I2,e1,e2⟩=>by
  subst e1 e2
  exact⟨.bl (!b),H2,I2,rfl,q1⟩)
end L2
namespace Rf
open PySem PySem.Spec PyProof.Rows L2
open PySem.W (WData)
open VametBase (done within)
noncomputable abbrev zDd:=VametBase.Cond
noncomputable abbrev zO6:=VametBase.Rel
section
variable {P:Program} {w:World} {K:PySem.W.Frag} {mg:Str->Option Value} {base:Heap}
noncomputable def zSa(ds:List WData)(d:WData):Prop:=∃(p:zBc) (os:List (Option zC0)),ds= [zBt p,.list (os.map zKj)]/\zBy p/\(∀l,some l∈os->within l=true)/\os.length<=10000/\d= .list (os.map fun o=>zKj (o.bind (VametBase.run p)))
noncomputable abbrev s60:Stmt:=top 85
theorem sc60:zAg ["program","outcomes","row"] ["program","outcomes"] (zAc s60):= fsc
theorem yDk{f fr:Addr}(F:DefAt K mg "run_on_each" s60 f)(mr:mg "run" =some (.ref fr))(Cr:L2.Callee P w K mg base 2 fr ["program","row"] (zAx yAy)):L2.Callee P w K mg base 3 f ["program","outcomes"] (zAx zSa):=by
 refine F.callee0 sc60 (zD4 rfl fun ds d ⟨p,l,e,_⟩=>by rw[e];rfl) (fun _ _ _ _ _ _=>b2 fun _ _=>rfl) (fun cdv A outer s H vs Q E hr h=>?_)
 obtain⟨Ar,ds,d,sA,hd,⟨p,os,rfl,hp,hw,hlen,rfl⟩,k⟩:=h
 cases hd with
 | cons h1 h2=>
 cases h2 with
 | cons h2 h3=>
 cases h3
 obtain⟨oa,xs,rfl,hoa,hxs⟩:=Dm.list_inv h2
 refine⟨_,zAf (zAi (zEh (own:=[("row",2)]) rfl sc60.nd (zBo (pv 1)) (show zCf ["program","outcomes","row"] (zAc s60) _ [("row",2)]from bok)
  (fun s H C cl fp=>zAv (i:=2) sc60.nd rfl (Or.inl rfl)) (fun s H C cl fp=>zB2)
  (fun s H C cl fp=>zDf (zA6 zIw (pv 2) zE2 (zA0 _)) zE2 (zAh (E:=E0) Cr hr (by rfl) mr zAm (zAa (pv 0) (zAa (pv 2) zAd)))))),?_⟩
 refine (zq rfl ⟨oa,rfl,⟨_,SqL.of (sA _ _ hoa)⟩,fun D hD=>zR7 (ds:=os.map zKj) (es:=os.map fun o=>zKj (o.bind (VametBase.run p))) sA (sA _ _ hoa) hxs (by rw[List.length_map,List.length_map]) hD (by rw[List.length_map];omega) (fun x=>rfl) (fun j x d e A' H' R hj he s1 s2 s3 dx kk=>?_) (fun H' sm dv=>k H' _ sm dv)⟩)
 rw[List.getElem?_map]at hj he
 cases ho:os[j]? with
 | none=>rw[ho]at hj;cases hj
 | some o=>
  rw[ho]at hj he
  obtain rfl:zKj o=d:=Option.some.inj hj
  obtain rfl:zKj (o.bind (VametBase.run p))=e:=Option.some.inj he
  cases o with
  | none=>
   obtain rfl:=Dm.non_inv dx
   exact (zq rfl ⟨rfl,(zq rfl (zE6 (kk H' _ (Same.refl H') .non)))⟩)
  | some l=>
   have dx2:Dm Ar x (zCl l):=dx
   obtain⟨ra,rfl,hra⟩:=Dm.row_inv dx2
   refine (zq rfl ⟨rfl,(zq rfl (zG3 ?_))⟩)
   refine (zq rfl (zq rfl ⟨A',_,_,s2,.cons (h1.same s1) (.cons (dx2.same s1) .nil),⟨p,l,rfl,hp,hw l (List.mem_of_getElem? ho),rfl⟩,fun H2 v e2 dv=>?_⟩))
   exact kk H2 v e2 dv
noncomputable def zBa:zDd->Nat
 | .any=>0 | .some=>1 | .rising=>2 | .plus=>3 | .unlike=>4 | .atLeast _=>5
noncomputable def zCp:zDd->Int
 | .atLeast k=>(k:Int) | _=>0
noncomputable def zDq(c:zDd):WData:= .tuple [.int (zBa c),.int (zCp c)]
noncomputable def RCond(n:Nat)(ds:List WData)(d:WData):Prop:=∃(l:zC0) (c:zDd),ds= [zCl l,.int (zCp c)]/\zBa c=n/\l.length<=40/\d= .bool (VametBase.fitsCond c l)
theorem RCond.len{n:Nat}:∀ds d,RCond n ds d->ds.length=2:=fun ds d ⟨l,s,e,_⟩=>by rw[e];rfl
theorem RCond.open{n:Nat}{vs:List V}{H:Hp}{Q:VK}{E:XK}(h:zAx (RCond n) vs H Q E):∃(l:zC0) (c:zDd) (a:Addr),vs= [.ref a,.int (zCp c)]/\H a=some (.lst (l.map V.int))/\zBa c=n/\l.length<=40/\
  ∀H' b,Same H H'->b=VametBase.fitsCond c l->Q (.bl b) H':=by
 obtain⟨Ar,ds,d,sA,hd,⟨l,c,rfl,hn,hl,rfl⟩,k⟩:=h
 cases hd with
 | cons h1 h2=>
  cases h2 with
  | cons h2 h3=>
   cases h3
   obtain⟨a,rfl,hs⟩:=Dm.row_inv h1
   obtain rfl:=Dm.int_inv h2
   exact⟨l,c,a,rfl,sA _ _ hs,hn,hl,fun H' b e eb=>k H' _ e (by rw[eb];exact .bl _)⟩
noncomputable abbrev s17:Stmt:=top 21
theorem yDl:zAg ["row","least_count"] ["row","least_count"] (zAc s17):= fsc
theorem yDm{f:Addr}(F:DefAt K mg "always" s17 f):L2.Callee P w K mg base 1 f ["row","least_count"] (zAx (RCond 0)):=by
 refine F.callee0 yDl (zD4 rfl RCond.len) (fun _ _ _ _ _ _=>b2 fun _ _=>rfl) (fun cdv A outer s H vs Q E hr h=>?_)
 obtain⟨l,c,a,rfl,hs,hn,hl,k⟩:=RCond.open h
 obtain rfl:c= .any:=by cases c <;> first | rfl | (exact absurd hn (by simp[zBa]))
 exact⟨_,zAf (zAi zHn),k H _ (Same.refl H) rfl⟩
noncomputable abbrev s18:Stmt:=top 22
theorem yDn:zAg ["row","least_count"] ["row","least_count"] (zAc s18):= fsc
theorem yDo{f:Addr}(F:DefAt K mg "has_numbers" s18 f)(B:Blt mg):L2.Callee P w K mg base 1 f ["row","least_count"] (zAx (RCond 1)):=by
 refine F.callee0 yDn (zD4 rfl RCond.len) (fun _ _ _ _ _ _=>b2 fun _ _=>rfl) (fun cdv A outer s H vs Q E hr h=>?_)
 obtain⟨l,c,a,rfl,hs,hn,hl,k⟩:=RCond.open h
 obtain rfl:c= .some:=by cases c <;> first | rfl | (exact absurd hn (by simp[zBa]))
 refine⟨_,zAf (zAi (zBd zF9 (zAn zAk (by rfl) B.len PySem.boot_len (zAa (pv 0) zAd)) zAp (zA0 _))),?_⟩
 refine (zq rfl ⟨a,(zq rfl ⟨.inl (SqL.of hs),_,(zq rfl ⟨rfl,k H _ (Same.refl H) ?_⟩)⟩)⟩)
 rw[List.length_map]
 cases l with
 | nil=>rfl
 | cons x l=>show decide ((0:Int) < ((l.length+1:Nat):Int))=true;exact decide_eq_true (by omega)
noncomputable abbrev s19:Stmt:=top 23
theorem yDp:zAg ["row","least_count"] ["row","least_count"] (zAc s19):= fsc
theorem yDq{f:Addr}(F:DefAt K mg "is_rising" s19 f)(B:Blt mg):L2.Callee P w K mg base 1 f ["row","least_count"] (zAx (RCond 2)):=by
 refine F.callee0 yDp (zD4 rfl RCond.len) (fun _ _ _ _ _ _=>b2 fun _ _=>rfl) (fun cdv A outer s H vs Q E hr h=>?_)
 obtain⟨l,c,a,rfl,hs,hn,hl,k⟩:=RCond.open h
 obtain rfl:c= .rising:=by cases c <;> first | rfl | (exact absurd hn (by simp[zBa]))
 refine⟨_,zAf (zAi (zBd (zFz hr.units) (pv 0) (zAn zFu (by rfl) B.sorted boot_sorted (zAa (pv 0) zAd)) (zA0 _))),?_⟩
 refine (zq rfl (zq rfl ⟨a,l,rfl,SqL.of hs,(by omega),fun ns p hp hq hn=>?_⟩))
 refine⟨a,p,l,ns,rfl,rfl,SqL.of (Same.upd hn _ _ hs),SqL.of zAb,k _ _ (Same.upd hn) ?_⟩
 rw[zEc hp hq]
 exact(zRa l).symm
noncomputable abbrev s20:Stmt:=top 24
theorem yDr:zAg ["row","least_count"] ["row","least_count"] (zAc s20):= fsc
theorem yDs{f:Addr}(F:DefAt K mg "none_below_zero" s20 f)(B:Blt mg):L2.Callee P w K mg base 1 f ["row","least_count"] (zAx (RCond 3)):=by
 refine F.callee0 yDr (zD4 rfl RCond.len) (fun _ _ _ _ _ _=>b2 fun _ _=>rfl) (fun cdv A outer s H vs Q E hr h=>?_)
 obtain⟨l,c,a,rfl,hs,hn,hl,k⟩:=RCond.open h
 obtain rfl:c= .plus:=by cases c <;> first | rfl | (exact absurd hn (by simp[zBa]))
 refine⟨_,zAf (zAi (zRf (zUk (pv 0)) (zE4 (zBd zRh (zAn (zPq rfl) (by rfl) B.min boot_min (zAa (pv 0) zAd)) zAp (zA0 _))))),?_⟩
 refine (zq rfl ⟨_,.inl ⟨_,SqL.of hs,rfl⟩,(zq rfl ?_)⟩)
 cases l with
 | nil=>exact zE6 (k H _ (Same.refl H) rfl)
 | cons x l=>
  refine zG3 (zq rfl ⟨a,x::l,rfl,SqL.of hs,Nat.succ_pos _,fun m hm hle=>⟨_,(zq rfl ⟨rfl,k H _ (Same.refl H) ?_⟩)⟩⟩)
  show decide ((0:Int)<=m)=(x::l).all fun y=>decide (0<=y)
  rw[Bool.eq_iff_iff,decide_eq_true_iff,List.all_eq_true]
  constructor
  ·intro e y hy
   have:=hle y hy
   exact decide_eq_true (by omega)
  ·intro e
   exact of_decide_eq_true (e m hm)
noncomputable abbrev s22:Stmt:=top 26
theorem yDt:zAg ["row","least_count"] ["row","least_count"] (zAc s22):= fsc
theorem yDu{f:Addr}(F:DefAt K mg "has_as_many" s22 f)(B:Blt mg):L2.Callee P w K mg base 1 f ["row","least_count"] (zAx (RCond 5)):=by
 refine F.callee0 yDt (zD4 rfl RCond.len) (fun _ _ _ _ _ _=>b2 fun _ _=>rfl) (fun cdv A outer s H vs Q E hr h=>?_)
 obtain⟨l,c,a,rfl,hs,hn,hl,k⟩:=RCond.open h
 obtain⟨n,rfl⟩:∃n,c= .atLeast n:=by cases c <;> first | exact⟨_,rfl⟩ | (exact absurd hn (by simp[zBa]))
 refine⟨_,zAf (zAi (zBd zRh (zAn zAk (by rfl) B.len PySem.boot_len (zAa (pv 0) zAd)) (pv 1) (zA0 _))),?_⟩
 refine (zq rfl ⟨a,(zq rfl ⟨.inl (SqL.of hs),(zq rfl ⟨_,(zq rfl ⟨rfl,k H _ (Same.refl H) ?_⟩)⟩)⟩)⟩)
 rw[List.length_map]
 show decide ((n:Int)<=(l.length:Int))=decide (n<=l.length)
 by_cases e:n<=l.length
 ·rw[decide_eq_true e,decide_eq_true (by omega)]
 ·rw[decide_eq_false e,decide_eq_false (by omega)]
end
open VametBase (done within)
section
variable {P:Program} {w:World} {K:PySem.W.Frag} {mg:Str->Option Value} {base:Heap}
noncomputable def zBu:zO6->Nat
 | .equal=>0 | .bag=>1 | .numbers=>2 | .most=>3 | .least=>4 | .begins=>5 | .long=>6
noncomputable def RWay(n:Nat)(ds:List WData)(d:WData):Prop:=∃(x y:zC0) (r:zO6),ds= [zCl x,zCl y]/\zBu r=n/\x.length<=40/\y.length<=40/\d= .bool (VametBase.stands r x y)
theorem RWay.len{n:Nat}:∀ds d,RWay n ds d->ds.length=2:=fun ds d ⟨l,m,s,e,_⟩=>by rw[e];rfl
theorem RWay.open{n:Nat}{vs:List V}{H:Hp}{Q:VK}{E:XK}(h:zAx (RWay n) vs H Q E):∃(x y:zC0) (r:zO6) (a b:Addr),vs= [.ref a,.ref b]/\H a=some (.lst (x.map V.int))/\H b=some (.lst (y.map V.int))/\zBu r=n/\x.length<=40/\y.length<=40/\
  ∀H' c,Same H H'->c=VametBase.stands r x y->Q (.bl c) H':=by
 obtain⟨Ar,ds,d,sA,hd,⟨x,y,r,rfl,hn,hx,hy,rfl⟩,k⟩:=h
 cases hd with
 | cons h1 h2=>
  cases h2 with
  | cons h2 h3=>
   cases h3
   obtain⟨a,rfl,hs⟩:=Dm.row_inv h1
   obtain⟨b,rfl,ht⟩:=Dm.row_inv h2
   exact⟨x,y,r,a,b,rfl,sA _ _ hs,sA _ _ ht,hn,hx,hy,fun H' c e ec=>k H' _ e (by rw[ec];exact .bl _)⟩
theorem zQg(x y:List Int):decide (x=y)=(x == y):=by
 by_cases h:x=y
 ·subst h;simp
 ·rw[decide_eq_false h];exact(beq_eq_false_iff_ne.mpr h).symm
noncomputable abbrev s26:Stmt:=top 32
theorem yDv:zAg ["left","right"] ["left","right"] (zAc s26):= fsc
theorem yDw{f:Addr}(F:DefAt K mg "equal" s26 f):L2.Callee P w K mg base 1 f ["left","right"] (zAx (RWay 0)):=by
 refine F.callee0 yDv (zD4 rfl RWay.len) (fun _ _ _ _ _ _=>b2 fun _ _=>rfl) (fun cdv A outer s H vs Q E hr h=>?_)
 obtain⟨x,y,r,a,b,rfl,hs,ht,hn,hx,hy,k⟩:=RWay.open h
 obtain rfl:r= .equal:=by cases r <;> first | rfl | (exact absurd hn (by simp[zBu]))
 refine⟨_,zAf (zAi (zBd (zFz hr.units) (pv 0) (pv 1) (zA0 _))),?_⟩
 exact (zq rfl (zq rfl ⟨a,b,x,y,rfl,rfl,SqL.of hs,SqL.of ht,k H _ (Same.refl H) (zQg x y)⟩))
noncomputable abbrev s27:Stmt:=top 33
theorem yDx:zAg ["left","right"] ["left","right"] (zAc s27):= fsc
theorem yDy{f:Addr}(F:DefAt K mg "same_bag" s27 f)(B:Blt mg):L2.Callee P w K mg base 1 f ["left","right"] (zAx (RWay 1)):=by
 refine F.callee0 yDx (zD4 rfl RWay.len) (fun _ _ _ _ _ _=>b2 fun _ _=>rfl) (fun cdv A outer s H vs Q E hr h=>?_)
 obtain⟨x,y,r,a,b,rfl,hs,ht,hn,hx,hy,k⟩:=RWay.open h
 obtain rfl:r= .bag:=by cases r <;> first | rfl | (exact absurd hn (by simp[zBu]))
 refine⟨_,zAf (zAi (zBd (zFz hr.units) (zAn zFu (by rfl) B.sorted boot_sorted (zAa (pv 0) zAd)) (zAn zFu (by rfl) B.sorted boot_sorted (zAa (pv 1) zAd)) (zA0 _))),?_⟩
 refine (zq rfl ⟨a,x,rfl,SqL.of hs,(by omega),fun ns p hp hq hpn=>?_⟩)
 refine (zq rfl ⟨b,y,rfl,SqL.of (Same.upd hpn _ _ ht),(by omega),fun ms q hp2 hq2 hqn=>?_⟩)
 refine⟨p,q,ns,ms,rfl,rfl,SqL.of (Same.upd hqn _ _ zAb),SqL.of zAb,k _ _ ((Same.upd hpn).trans (Same.upd hqn)) ?_⟩
 rw[zEc hp hq,zEc hp2 hq2]
 exact zQg _ _
noncomputable abbrev s29:Stmt:=top 35
theorem sc29:zAg ["left","right","first","second"] ["left","right"] (zAc s29):= fsc
theorem yDz{f:Addr}(F:DefAt K mg "at_most" s29 f)(B:Blt mg):L2.Callee P w K mg base 1 f ["left","right"] (zAx (RWay 3)):=by
 refine F.callee0 sc29 (zD4 rfl RWay.len) (fun _ _ _ _ _ _=>b2 fun _ _=>rfl) (fun cdv A outer s H vs Q E hr h=>?_)
 obtain⟨x,y,r,a,b,rfl,hs,ht,hn,hx,hy,k⟩:=RWay.open h
 obtain rfl:r= .most:=by cases r <;> first | rfl | (exact absurd hn (by simp[zBu]))
 refine⟨_,zAf (zAi (zIu (zBd zIh (zAn zAk (by rfl) B.len PySem.boot_len (zAa (pv 0) zAd)) (zAn zAk (by rfl) B.len PySem.boot_len (zAa (pv 1) zAd)) (zA0 _))
  (zE4 (zAn (zS4 rfl) (by rfl) B.all boot_all (zAa (zEh (own:=[("first",2),("second",3)]) (g:=zX2 K 2 (zKv (zEx 2) (zKv (zEx 3) zX1))) rfl sc29.nd (zS8 (by rfl) B.zip (zAa (pv 0) (zAa (pv 1) zAd)))
   (show zCf ["left","right","first","second"] (zAc s29) _ [("first",2),("second",3)]from bok)
   (fun s H C cl fp=>zKw (n:=2) rfl (zCn (zAv (i:=2) sc29.nd rfl (Or.inl rfl) (Or.inr rfl)) (zCn (zAv (i:=3) sc29.nd rfl (Or.inl rfl) (Or.inr rfl)) zHq))) (fun s H C cl fp=>zB2) (fun s H C cl fp=>zBd zVo (pv 2) (pv 3) (zA0 _))) zAd))))),?_⟩
 refine (zq rfl ⟨a,(zq rfl ⟨.inl (SqL.of hs),(zq rfl ⟨b,(zq rfl ⟨.inl (SqL.of ht),rfl,(zq rfl ?_)⟩)⟩)⟩)⟩)
 rw[List.length_map,List.length_map]
 refine zD2 (fun e=>?_) fun e=>?_
 ·have e:V.int (x.length:Int)=V.int (y.length:Int):=of_decide_eq_true e
  have e:x.length=y.length:=by
   have:=V.int.inj e
   omega
  refine (zq rfl (zq rfl ⟨a,b,x.map V.int,y.map V.int,rfl,SqL.of hs,SqL.of ht,fun D hD=>?_⟩))
  refine zTa (xs:=x.map V.int) (ys:=y.map V.int) (fun i H'=>Same H H'/\H' D=some (.lst (((x.zip y).take i).map fun z=>V.bl (decide (z.1<=z.2)))))
   ⟨Same.upd hD,zAb⟩ (fun i H' h=>⟨SqL.of (h.1 _ _ hs),SqL.of (h.1 _ _ ht)⟩) ?_ ?_
  ·rintro i u v T H' hu hv ⟨sm,hq⟩ hT
   obtain⟨n,hn,rfl⟩:∃n,x[i]? =some n/\u=V.int n:=by
    rw[List.getElem?_map]at hu
    cases e:x[i]? with
    | none=>rw[e]at hu;cases hu
    | some n=>rw[e]at hu;exact⟨n,rfl,(Option.some.inj hu).symm⟩
   obtain⟨m,hm,rfl⟩:∃n,y[i]? =some n/\v=V.int n:=by
    rw[List.getElem?_map]at hv
    cases e:y[i]? with
    | none=>rw[e]at hv;cases hv
    | some n=>rw[e]at hv;exact⟨n,rfl,(Option.some.inj hv).symm⟩
   have hz:(x.zip y)[i]? =some (n,m):=List.getElem?_zip_eq_some.mpr ⟨hn,hm⟩
   have hTD:D≠T:=zAo hq hT
   refine ⟨T,(zq rfl ⟨SqT.of zAb,rfl,_,(zq rfl ⟨_,(zq rfl ⟨rfl,rfl,?_⟩)⟩)⟩)⟩
   simp only [zNb,if_true]
   have hq2:upd H' T (.tup [V.int n,V.int m]) D=some (.lst (((x.zip y).take i).map fun z=>V.bl (decide (z.1<=z.2)))):=by rw[zAj hTD];exact hq
   refine (zq rfl (zq rfl ⟨_,(zq rfl ⟨rfl,_,hq2,?_,(sm.trans (Same.upd hT)).updR hD,?_⟩)⟩))
   ·rw[List.length_map,List.length_take,List.length_zip]
    exact zCg (by omega)
   ·rw[zAb,zA2 hz,List.map_append]
    rfl
  ·rintro H' ⟨sm,hq⟩
   rw[List.length_map,List.length_map,<-List.length_zip,List.take_length]at hq
   refine⟨D,(x.zip y).map fun z=>decide (z.1<=z.2),rfl,SqL.of (by rw[hq,List.map_map];rfl),k H' _ sm ?_⟩
   show _=(x.length == y.length&& (x.zip y).all fun z=>decide (z.1<=z.2))
   rw[e,beq_self_eq_true,Bool.true_and,List.all_map]
   rfl
 ·have e:¬x.length=y.length:=fun z=>e (decide_eq_true (by rw[z]))
  refine k H _ (Same.refl H) ?_
  show false=(x.length == y.length&&_)
  rw[beq_eq_false_iff_ne.mpr e]
  rfl
noncomputable abbrev s30:Stmt:=top 36
theorem yD0:zAg ["left","right"] ["left","right"] (zAc s30):= fsc
theorem yD1{f fm:Addr}(F:DefAt K mg "at_least" s30 f)(mm:mg "at_most" =some (.ref fm))(Cm:L2.Callee P w K mg base 1 fm ["left","right"] (zAx (RWay 3))):L2.Callee P w K mg base 2 f ["left","right"] (zAx (RWay 4)):=by
 refine F.callee0 yD0 (zD4 rfl RWay.len) (fun _ _ _ _ _ _=>b2 fun _ _=>rfl) (fun cdv A outer s H vs Q E hr h=>?_)
 obtain⟨Ar,ds,d,sA,hd,⟨x,y,r,rfl,hn,hx,hy,rfl⟩,k⟩:=h
 obtain rfl:r= .least:=by cases r <;> first | rfl | (exact absurd hn (by simp[zBu]))
 cases hd with
 | cons h1 h2=>
 cases h2 with
 | cons h2 h3=>
 cases h3
 refine⟨_,zAf (zAi (zAh (E:=E0) Cm hr (by rfl) mm zAm (zAa (pv 1) (zAa (pv 0) zAd)))),?_⟩
 refine (zq rfl (zq rfl ⟨Ar,_,_,sA,.cons h2 (.cons h1 .nil),⟨y,x,.most,rfl,rfl,hy,hx,rfl⟩,fun H' v e dv=>?_⟩))
 refine k H' v e ?_
 have eq:VametBase.stands .least x y=VametBase.stands .most y x:=by
  show(x.length == y.length&& (x.zip y).all fun z=>decide (z.2<=z.1))=(y.length == x.length&& (y.zip x).all fun z=>decide (z.1<=z.2))
  have e1:(x.length == y.length)=(y.length == x.length):=by
   rw[Bool.eq_iff_iff,beq_iff_eq,beq_iff_eq]
   exact eq_comm
  have e2:∀(u v:List Int),((u.zip v).all fun z=>decide (z.2<=z.1))=((v.zip u).all fun z=>decide (z.1<=z.2)):=by
   intro u
   induction u with
   | nil=>intro v;cases v <;> rfl
   | cons a u ih=>
    intro v
    cases v with
    | nil=>rfl
    | cons b v=>show(decide (b<=a) && (u.zip v).all _)=(decide (b<=a) && (v.zip u).all _);rw[ih v]
  rw[e1,e2]
 rw[eq]
 exact dv
noncomputable abbrev s31:Stmt:=top 37
theorem yD2:zAg ["left","right"] ["left","right"] (zAc s31):= fsc
theorem yD3{f:Addr}(F:DefAt K mg "begins" s31 f)(B:Blt mg):L2.Callee P w K mg base 1 f ["left","right"] (zAx (RWay 5)):=by
 refine F.callee0 yD2 (zD4 rfl RWay.len) (fun _ _ _ _ _ _=>b2 fun _ _=>rfl) (fun cdv A outer s H vs Q E hr h=>?_)
 obtain⟨x,y,r,a,b,rfl,hs,ht,hn,hx,hy,k⟩:=RWay.open h
 obtain rfl:r= .begins:=by cases r <;> first | rfl | (exact absurd hn (by simp[zBu]))
 refine⟨_,zAf (zAi (zBd (zFz hr.units) (zEp zGc (pv 1) zGa (zGb (zAn zAk (by rfl) B.len PySem.boot_len (zAa (pv 0) zAd)))) (pv 0) (zA0 _))),?_⟩
 refine (zq rfl (zq rfl ⟨a,(zq rfl ⟨.inl (SqL.of hs),(zq rfl ⟨b,(zq rfl ⟨SqL.of ht,fun p hp=>?_⟩)⟩)⟩)⟩))
 refine (zq rfl ⟨p,a,y.take x.length,x,rfl,rfl,SqL.of ?_,SqL.of (Same.upd hp _ _ hs),k _ _ (Same.upd hp) ?_⟩)
 ·rw[zAb,List.length_map,zNo]
 ·exact(zKq x y).symm
noncomputable abbrev s32:Stmt:=top 38
theorem yD4:zAg ["left","right"] ["left","right"] (zAc s32):= fsc
theorem yD5{f:Addr}(F:DefAt K mg "as_long" s32 f)(B:Blt mg):L2.Callee P w K mg base 1 f ["left","right"] (zAx (RWay 6)):=by
 refine F.callee0 yD4 (zD4 rfl RWay.len) (fun _ _ _ _ _ _=>b2 fun _ _=>rfl) (fun cdv A outer s H vs Q E hr h=>?_)
 obtain⟨x,y,r,a,b,rfl,hs,ht,hn,hx,hy,k⟩:=RWay.open h
 obtain rfl:r= .long:=by cases r <;> first | rfl | (exact absurd hn (by simp[zBu]))
 refine⟨_,zAf (zAi (zBd zIh (zAn zAk (by rfl) B.len PySem.boot_len (zAa (pv 0) zAd)) (zAn zAk (by rfl) B.len PySem.boot_len (zAa (pv 1) zAd)) (zA0 _))),?_⟩
 refine (zq rfl ⟨a,(zq rfl ⟨.inl (SqL.of hs),(zq rfl ⟨b,(zq rfl ⟨.inl (SqL.of ht),rfl,k H _ (Same.refl H) ?_⟩)⟩)⟩)⟩)
 rw[List.length_map,List.length_map]
 show decide (V.int (x.length:Int)=V.int (y.length:Int))=(x.length == y.length)
 by_cases e:x.length=y.length
 ·rw[e];simp
 ·rw[beq_eq_false_iff_ne.mpr e,decide_eq_false (fun z=>e (by have:=V.int.inj z;omega))]
structure zQh(P:Program)(w:World)(K:PySem.W.Frag)(mg:Str->Option Value)(base:Heap)(aC:Addr)(fs:List Addr):Prop where
 gl:mg "CONDITIONS" =some (.ref aC)
 tup:∀H:Hp,SqT K H aC (fs.map V.ref)
 len:fs.length=6
 ok:∀(i:Nat) f,fs[i]? =some f->L2.Callee P w K mg base 1 f ["row","least_count"] (zAx (RCond i))
theorem zOp(c:zDd):zBa c < 6:=by cases c <;> simp[zBa]
noncomputable def yAz(ds:List WData)(d:WData):Prop:=∃(c:zDd) (xs:List zC0),ds= [zDq c,.list (xs.map zCl)]/\(∀l∈xs,l.length<=40)/\xs.length<=10000/\d= .list (xs.map fun l=> .bool (VametBase.fitsCond c l))
noncomputable abbrev s34:Stmt:=top 40
theorem sc34:zAg ["condition","rows","is_so","row"] ["condition","rows"] (zAc s34):= fsc
theorem yD6{f aC:Addr}{fs:List Addr}(F:DefAt K mg "which_fit" s34 f)(S:zQh P w K mg base aC fs):L2.Callee P w K mg base 2 f ["condition","rows"] (zAx yAz):=by
 refine F.callee0 sc34 (zD4 rfl fun ds d ⟨c,l,e,_⟩=>by rw[e];rfl) (fun _ _ _ _ _ _=>b2 fun _ _=>rfl) (fun cdv A outer s H vs Q E hr h=>?_)
 obtain⟨Ar,ds,d,sA,hd,⟨c,xs,rfl,hx,hlen,rfl⟩,k⟩:=h
 cases hd with
 | cons h1 h2=>
 cases h2 with
 | cons h2 h3=>
 cases h3
 obtain⟨ca,rfl,hca⟩:=Dm.pair_inv h1
 obtain⟨ra,rs,rfl,hra,hrs⟩:=Dm.list_inv h2
 obtain⟨f1,hf1⟩:∃f1,fs[zBa c]? =some f1:=⟨_,List.getElem?_eq_getElem (by rw[S.len];exact zOp c)⟩
 refine⟨_,zAe (zAq (i:=2) sc34.nd rfl (Or.inr rfl) (zBi zBx (zAr (v:= .ref aC) (by rfl) S.gl rfl) (zBi zBx (pv 0) zAp (fun _ _=>rfl)) (fun _ _=>rfl)))
  (zAf (zAi (zEh (own:=[("row",3)]) (te:=zNj P w K mg base 1 E0 2 (zEb (zFq 3) (zEb (tOp (yAw K) (zFq 0) (tC (.int 1))) zMk))) rfl sc34.nd (zBo (pv 1)) (show zCf ["condition","rows","is_so","row"] (zAc s34) _ [("row",3)]from bok)
   (fun s H C cl fp=>zAv (i:=3) sc34.nd rfl (Or.inl rfl)) (fun s H C cl fp=>zB2)
   (fun s H C cl fp=>zEs (k:=1) (i:=2) (E:=E0) rfl (by first | exact Or.inl rfl | exact Or.inr (Or.inl rfl) | exact Or.inr (Or.inr rfl)) hr zAm (zAa (pv 3) (zAa (zBi zBx (pv 0) zAp (fun _ _=>rfl)) zAd)))))),?_⟩
 refine (zq rfl ⟨ca,_,_,(zq rfl ⟨rfl,SqT.of (sA _ _ hca),zAw (j:=0) rfl,aC,_,_,(zq rfl ⟨rfl,S.tup _,zAw (v:=V.ref f1) (by rw[List.getElem?_map,hf1];rfl),?_⟩)⟩)⟩)
 refine (zq rfl ⟨ra,rfl,⟨_,SqL.of (sA _ _ hra)⟩,fun D hD=>zR7 (ds:=xs.map zCl) (es:=xs.map fun l=> .bool (VametBase.fitsCond c l)) sA (sA _ _ hra) hrs (by rw[List.length_map,List.length_map]) hD (by rw[List.length_map];omega) (fun x=>rfl) (fun j x d e A' H' R hj he s1 s2 s3 dx kk=>?_) (fun H' sm dv=>k H' _ sm dv)⟩)
 rw[List.getElem?_map]at hj he
 cases ho:xs[j]? with
 | none=>rw[ho]at hj;cases hj
 | some l=>
  rw[ho]at hj he
  obtain rfl:zCl l=d:=Option.some.inj hj
  obtain rfl:WData.bool (VametBase.fitsCond c l)=e:=Option.some.inj he
  refine ⟨f1,_,(zq rfl ⟨S.ok _ _ hf1,(zq rfl (zq rfl ⟨ca,_,_,(zq rfl ⟨rfl,SqT.of (s3 _ _ (sA _ _ hca)),zAw (j:=1) rfl,?_⟩)⟩))⟩)⟩
  refine⟨A',_,_,s2,.cons (dx.same s1) (.cons (.int _) .nil),⟨l,c,rfl,rfl,hx l (List.mem_of_getElem? ho),rfl⟩,fun H2 v e2 dv=>kk H2 v e2 dv⟩
end
end Rf
namespace L2
open PySem PySem.Spec PyProof.Rows
section
variable {P:Program} {w:World} {K:PySem.W.Frag} {mg:Str->Option Value} {base:Heap}
theorem Fun.callee0{x qual:Str}{st:Stmt}{f:Addr}{N ps:List Str}{k:Nat}{sp:Sp}(F:∃fd,Fun K x qual st f fd)(S:zAg N ps (zAc st))(len:∀vs H Q E,sp vs H Q E->vs.length=ps.length)
  (hb:∀(kV doc pm:Value) (an:Option Addr) (cdv ct:Value) (us:List Value),us.length=ps.length->bindArgs (PySem.W.fnOf x qual (zDl st) (zCd st) (zAc st) .none kV doc pm an cdv ct) ⟨us,[]⟩=pure (ps.zip us))
  (hbody:∀(cdv:Value) (A:Around) (outer:List Env) (s:Shared) (H:Hp) (vs:List V) (Q:VK) (E:XK),Room k (A.deeper (envOfC qual (zAc st) s.heap.objs.size f cdv))->sp vs H Q E->
   ∃t,PSs (zL8 (CXe P w) P w K mg base N qual (zAc st) f cdv A outer s H E).nox (zCd st) t/\t {nx:=fun _ H'=>Q .non H',rt:=Q} (start N vs) H):Callee P w K mg base (k+1) f ps sp:=by
 obtain⟨fd,F'⟩:=F
 exact⟨⟨fd,F'.ok0 S len hbody,F'.binds hb⟩,F'.kp⟩
theorem Fun.calleeE{x qual:Str}{st:Stmt}{f:Addr}{N ps:List Str}{k:Nat}{sp:Sp}(F:∃fd,Fun K x qual st f fd)(S:zAg N ps (zAc st))(len:∀vs H Q E,sp vs H Q E->vs.length=ps.length)
  (hb:∀(kV doc pm:Value) (an:Option Addr) (cdv ct:Value) (us:List Value),us.length=ps.length->bindArgs (PySem.W.fnOf x qual (zDl st) (zCd st) (zAc st) .none kV doc pm an cdv ct) ⟨us,[]⟩=pure (ps.zip us))
  (hbody:∀(cdv:Value) (A:Around) (outer:List Env) (s:Shared) (H:Hp) (vs:List V) (Q:VK) (E:XK),Room k (A.deeper (envOfC qual (zAc st) s.heap.objs.size f cdv))->Wants (zL8 (CXe P w) P w K mg base N qual (zAc st) f cdv A outer s H E) E->sp vs H Q E->
   ∃t,PSs (zL8 (CXe P w) P w K mg base N qual (zAc st) f cdv A outer s H E) (zCd st) t/\t {nx:=fun _ H'=>Q .non H',rt:=Q} (start N vs) H):Callee P w K mg base (k+1) f ps sp:=by
 obtain⟨fd,F'⟩:=F
 exact⟨⟨fd,F'.okE S len hbody,F'.binds hb⟩,F'.kp⟩
end
section
variable {X:Cx} {k:Nat} {f C:Addr} {ps:List Str} {sp:Sp} {E:XK} {x m:Str} {p pos apos:Pos} {e o:Expr} {es:List Expr} {t:TA} {ta:TE}
noncomputable def zTb(C:Addr)(sp:Sp)(E:XK)(t:TA):TE:=fun σ H Q=>t σ H fun vs H1=>∀x dx,H1 x=none->H1 dx=none->dx≠x->
 sp (.ref x::vs) (upd (upd H1 dx (.own x)) x (.ins C dx [])) (fun v H2=>v= .non/\Q (.ref x) H2) E
theorem zB0(M:Mk X.K C f)(Cc:Callee X.prog X.w X.K X.mg X.base k f ps sp)(hr:Room (k+1) X.A)(hg:Gl X x)(hm:X.mg x=some (.ref C))(hw:Wants X E)(ha:PA X (e::es) t)
  (hdb:(x == ("__debug__":Str))=false:=by decide) (he:starEach (e::es) X.env=(false,eval e X.env)::starEach es X.env:=by rfl) (hpl:(backTo pos (starEach es X.env)).any (·.1)=false:=by rfl):
  PE X (.Call (.Name x p) (e::es) [] pos) (zTb C sp E t):=by
 obtain⟨⟨fd,F,b⟩,kp⟩:=Cc
 intro pins s σ H Q I h
 refine zTz M F hr hg hm b .nil hw.passes ha hdb he hpl pins s σ H Q I ?_
 have e2:(fun vs H1=>∀x dx,H1 x=none->H1 dx=none->dx≠x->sp (.ref x::(vs++ [])) (upd (upd H1 dx (.own x)) x (.ins C dx [])) (fun v H2=>v= .non/\Q (.ref x) H2) E)=fun(vs:List V) (H1:Hp)=>∀x dx,H1 x=none->H1 dx=none->dx≠x->sp (.ref x::vs) (upd (upd H1 dx (.own x)) x (.ins C dx [])) (fun v H2=>v= .non/\Q (.ref x) H2) E:=by
  funext vs H1
  rw[List.append_nil]
 show t σ H _
 rw[e2]
 exact h
noncomputable def zNr(C:Addr)(m:Str)(sp:Sp)(E:XK)(ta:TE)(t:TA):TE:=fun σ H Q=>ta σ H fun x H1=>∃a dx fs,x= .ref a/\H1 a=some (.ins C dx fs)/\fs.lookup m=none/\t σ H1 fun vs H2=>sp (x::vs) H2 Q E
theorem zBq{pl:Sem Bool}(he:PE X o ta)(c:Cls X.K C)(hm:zMj X.K C m f)(Cc:Callee X.prog X.w X.K X.mg X.base k f ps sp)(hr:Room k X.A)(hw:Wants X E)(ha:PA X (e::es) t)
  (hst:starEach (e::es) X.env=(false,eval e X.env)::starEach es X.env:=by rfl) (hpl:(backTo pos (starEach es X.env)).any (·.1)=false:=by rfl)
  (ht:eval (.Call (.Attribute o m apos) (e::es) [] pos) X.env=(do
   let ov <-eval o X.env
   standAt apos.atName
   let(f,first) <-holding [ov] (getMethod ov m pl)
   callWith pos f first (backTo pos (starEach (e::es) X.env)) (backToKw pos (keywordEach [] X.env))):=by rfl):
  PE X (.Call (.Attribute o m apos) (e::es) [] pos) (zNr C m sp E ta t):=by
 obtain⟨⟨fd,F,b⟩,kp⟩:=Cc
 intro pins s σ H Q I h
 refine zTy he c hm F hr b .nil hw.passes ha hst hpl ht pins s σ H Q I ?_
 refine(show ta σ H _ from ?_)
 have e2:(fun(x:V) H1=>∃a dx fs,x= .ref a/\H1 a=some (.ins C dx fs)/\fs.lookup m=none/\t σ H1 fun vs H2=>sp (x::(vs++ [])) H2 Q E)=fun(x:V) (H1:Hp)=>∃a dx fs,x= .ref a/\H1 a=some (.ins C dx fs)/\fs.lookup m=none/\t σ H1 fun vs H2=>sp (x::vs) H2 Q E:=by
  funext x H1
  simp only [List.append_nil]
 rw[e2]
 exact h
theorem zCq{pl:Sem Bool}(he:PE X o ta)(c:Cls X.K C)(hm:zMj X.K C m f)(Cc:Callee X.prog X.w X.K X.mg X.base k f ps sp)(hr:Room k X.A)(hw:Wants X E)
  (ht:eval (.Call (.Attribute o m apos) [] [] pos) X.env=(do
   let ov <-eval o X.env
   standAt apos.atName
   let(f,first) <-holding [ov] (getMethod ov m pl)
   callWith pos f first (backTo pos (starEach [] X.env)) (backToKw pos (keywordEach [] X.env))):=by rfl):
  PE X (.Call (.Attribute o m apos) [] [] pos) (zNr C m sp E ta zMk):=by
 obtain⟨⟨fd,F,b⟩,kp⟩:=Cc
 intro pins s σ H Q I h
 exact zRm he c hm F hr b .nil hw.passes ht pins s σ H Q I h
theorem zWb{X:Cx}:PIp X .Mult (fun x y H Q=>∃i j,x= .int i/\y= .int j/\CMul i j/\Q (.int (i * j)) H):=by
 intro pins s σ H x y v u Q I r1 r2 h
 obtain⟨i,j,e1,e2,hc,q⟩:=h
 subst e1;subst e2
 obtain⟨t,rfl⟩:=r1
 obtain⟨t',rfl⟩:=r2
 exact imul_int ⟨.int _,H,I.tok _,⟨_,rfl⟩,q⟩ hc.ok
end
end L2
namespace Rf
open PySem PySem.Spec PyProof.Rows L2
open PySem.W (WData)
open VametBase (done within)
noncomputable abbrev zDa:=VametBase.Bound
noncomputable def bF(l f s:V):List (Str×V):=zA9 "second" s (zA9 "first" f (zA9 "length" l []))
theorem zLn(l f s:V):(bF l f s).lookup ("length":Str)=some l:=by kernel_rfl
theorem zNs(l f s:V):(bF l f s).lookup ("first":Str)=some f:=by kernel_rfl
theorem zLo(l f s:V):(bF l f s).lookup ("second":Str)=some s:=by kernel_rfl
structure zD5(K:PySem.W.Frag)(mg:Str->Option Value)(C fI:Addr):Prop where
 gl:mg "Bound" =some (.ref C)
 cl:Cls K C
 make:Mk K C fI
 n1:NoAttr K C "length"
 n2:NoAttr K C "first"
 n3:NoAttr K C "second"
noncomputable def BoundAt(C:Addr)(H:Hp)(a:Addr)(b:zDa):Prop:=∃dx,H a=some (.ins C dx (bF (.int (b.long:Int)) (.int b.lo) (.int b.hi)))
section
variable {P:Program} {w:World} {K:PySem.W.Frag} {mg:Str->Option Value} {base:Heap} {C fI:Addr}
noncomputable abbrev s7:Stmt:=zBk (top 10) 0
theorem sc7:zAg ["self","length","first","second"] ["self","length","first","second"] (zAc s7):= fsc
noncomputable def spB(C:Addr):Sp:=fun vs H Q _=>∃(p dx:Addr) (l f s:V),vs= [.ref p,l,f,s]/\H p=some (.ins C dx [])/\Q .non (upd H p (.ins C dx (bF l f s)))
theorem ok7(F:∃fd,Fun K "__init__" "Bound.__init__" s7 fI fd)(B:zD5 K mg C fI):L2.Callee P w K mg base 1 fI ["self","length","first","second"] (spB C):=by
 refine Fun.callee0 F sc7 (fun vs H Q E h=>?_) (fun _ _ _ _ _ _=>b4 fun _ _ _ _=>rfl) (fun cdv A outer s H vs Q E hr h=>?_)
 ·obtain⟨p,dx,l,f,s,rfl,_⟩:=h
  rfl
 ·obtain⟨p,dx,l,f,s,rfl,hp,k⟩:=h
  refine⟨_,zAe (zBn (pv 0) (pv 1) rfl) (zAe (zBn (pv 0) (pv 2) rfl) (zAf (zBn (pv 0) (pv 3) rfl))),?_⟩
  refine (zq rfl (zq rfl ⟨p,C,dx,[],rfl,hp,B.cl,B.n1,(by show 0 < 1000;decide),?_⟩))
  refine (zq rfl (zq rfl ⟨p,C,dx,(zq rfl ⟨zAb,B.cl,B.n2,(by show 1 < 1000;decide),?_⟩)⟩))
  refine (zq rfl (zq rfl ⟨p,C,dx,(zq rfl ⟨zAb,B.cl,B.n3,Nat.lt_of_le_of_lt (zAt _ _ _) (by show 2 < 1000;decide),?_⟩)⟩))
  rw[zBh,zBh]
  exact k
noncomputable def okB(b:zDa):Prop:=b.long<=8/\-99<=b.lo/\b.lo<=b.hi/\b.hi<=99
noncomputable def zSb(C:Addr):Sp:=fun vs H Q _=>∃a b,vs= [.ref a]/\BoundAt C H a b/\okB b/\Q (.int (zAz (VametBase.width b) b.long:Nat)) H
theorem zF0{b:zDa}(h:okB b):((VametBase.width b:Nat):Int)=b.hi - b.lo+1:=by
 unfold VametBase.width
 obtain⟨_,_,h3,_⟩:=h
 omega
theorem zQi{b:zDa}(h:okB b):1<=VametBase.width b:=by
 have:=zF0 h
 obtain⟨_,_,h3,_⟩:=h
 omega
theorem zNt{b:zDa}(h:okB b):VametBase.width b<=199:=by
 have:=zF0 h
 obtain⟨_,h2,h3,h4⟩:=h
 omega
noncomputable abbrev s8:Stmt:=top 11
theorem sc8:zAg ["bound","width","as_long","total","length"] ["bound"] (zAc s8):= fsc
theorem ok8{f:Addr}(F:DefAt K mg "how_many_inputs" s8 f)(Bl:Blt mg)(B:zD5 K mg C fI):L2.Callee P w K mg base 1 f ["bound"] (zSb C):=by
 refine F.callee0 sc8 (fun vs H Q E h=>?_) (fun _ _ _ _ _ _=>b1 fun _=>rfl) (fun cdv A outer s H vs Q E hr h=>?_)
 ·obtain⟨a,b,rfl,_⟩:=h
  rfl
 ·obtain⟨a,b,rfl,⟨dx,hb⟩,ok,k⟩:=h
  have hw:=zF0 ok
  have hw1:=zNt ok
  refine⟨_,zAe (zAq (i:=1) sc8.nd rfl (Or.inl rfl) (zC3 zPk (zC3 zKx (zAl (pv 0) rfl) (zAl (pv 0) rfl)) zAp))
   (zAe (zAq (i:=2) sc8.nd rfl (Or.inl rfl) zAp) (zAe (zAq (i:=3) sc8.nd rfl (Or.inl rfl) zAp)
   (zAe (zC9 PassesOwn.never rfl (zC1 rfl Bl.range (zAa (zAl (pv 0) rfl) zAd)) (zAv (i:=4) sc8.nd rfl (Or.inl rfl))
    (zAe (zPe (i:=2) sc8.nd rfl (Or.inl rfl) (pv 1) zWb) (zAf (zPe (i:=3) sc8.nd rfl (Or.inl rfl) (pv 2) zVl))))
   (zAf (zAi (pv 3)))))),?_⟩
  refine (zq rfl (zf hb B.cl B.n3 (zLo _ _ _) (zq rfl (zf hb B.cl B.n2 (zNs _ _ _) ⟨_,(zq rfl ⟨rfl,_,(zq rfl ⟨rfl,?_⟩)⟩)⟩))))
  refine (zq rfl (zf hb B.cl B.n1 (zLn _ _ _) ⟨(b.long:Int),rfl,(by have:=ok.1;omega),(by have:=ok.1;omega),?_⟩))
  rw[Int.toNat_natCast]
  refine zFr (n:=b.long) (fun i σ H'=>∃v:Option V,σ= [some (.ref a),some (.int (VametBase.width b:Nat)),some (.int ((VametBase.width b) ^ i:Nat)),some (.int (zAz (VametBase.width b) i:Nat)),v]/\H'=H) ⟨none,?_,rfl⟩ ?_ ?_
  ·rw[hw];rfl
  ·rintro i σ H' hi ⟨v,rfl,rfl⟩
   have e1:(((VametBase.width b) ^ i:Nat):Int) * ((VametBase.width b:Nat):Int)=(((VametBase.width b) ^ (i+1):Nat):Int):=by rw[Nat.pow_succ];rfl
   refine (zq rfl (zq rfl ⟨_,(zq rfl ⟨rfl,.inr (by omega),?_⟩)⟩))
   refine (zq rfl (zq rfl ⟨_,(zq rfl ⟨rfl,?_⟩)⟩))
   refine⟨some (.int (0+ (i:Int))),?_,rfl⟩
   show [some (V.ref a),some (V.int _),some (V.int ((((VametBase.width b) ^ i:Nat):Int) * ((VametBase.width b:Nat):Int))),some (V.int (((zAz (VametBase.width b) i:Nat):Int) + (((VametBase.width b) ^ i:Nat):Int) * ((VametBase.width b:Nat):Int))),some (V.int (0+ (i:Int)))] = _
   rw[e1]
   rfl
  ·rintro σ H' ⟨v,rfl,rfl⟩
   exact (zq rfl k)
theorem zI9(n a b:Int):VametBase.whole VametBase.readBound [n,a,b] =if (0<=n/\n<=8/\-99<=a/\b<=99/\a<=b/\zAz ((b - a+1).toNat) n.toNat<=1500)then some ⟨n.toNat,a,b⟩else none:=by
 unfold VametBase.whole VametBase.readBound VametBase.readPair VametBase.readNat VametBase.readInt VametBase.TOLD VametBase.int
 by_cases hn:(((0:Nat):Int)<=n/\n<=((8:Nat):Int))
 ·simp only [if_pos hn,Option.bind_some]
  by_cases ha:(0 - 99<=a/\a<=99)
  ·simp only [if_pos ha,Option.bind_some]
   by_cases hb:(0 - 99<=b/\b<=99)
   ·simp only [if_pos hb,Option.bind_some,Option.map_some]
    have ok:VametBase.okBound ⟨n.toNat,a,b⟩=decide (0<=n/\n<=8/\-99<=a/\b<=99/\a<=b/\zAz ((b - a+1).toNat) n.toNat<=1500):=by
     unfold VametBase.okBound VametBase.TOLD VametBase.INPUTS
     by_cases hab:a<=b
     ·have hw:1<=VametBase.width ⟨n.toNat,a,b⟩:=by unfold VametBase.width;show 1<=(b - a+1).toNat;omega
      rw[zDw _ hw]
      have ew:VametBase.width ⟨n.toNat,a,b⟩=(b - a+1).toNat:=rfl
      rw[ew]
      show(decide (n.toNat<=8) && (decide (0 - 99<=a) && (decide (a<=b) && (decide (b<=99) &&decide (min 1501 (zAz (b - a+1).toNat n.toNat)<=1500)))))= _
      rw[Bool.eq_iff_iff]
      simp only [Bool.and_eq_true,decide_eq_true_eq]
      omega
     ·rw[Bool.eq_iff_iff]
      simp only [Bool.and_eq_true,decide_eq_true_eq]
      constructor
      ·rintro⟨_,_,h,_⟩;exact absurd h hab
      ·rintro⟨_,_,_,_,h,_⟩;exact absurd h hab
    rw[ok]
    by_cases h:(0<=n/\n<=8/\-99<=a/\b<=99/\a<=b/\zAz ((b - a+1).toNat) n.toNat<=1500)
    ·rw[if_pos h];simp[h]
    ·rw[if_neg h];simp[h]
   ·simp only [if_neg hb,Option.map_none,Option.bind_none]
    rw[if_neg (by omega)]
  ·simp only [if_neg ha,Option.bind_none,Option.map_none]
   rw[if_neg (by omega)]
 ·simp only [if_neg hn,Option.bind_none]
  rw[if_neg (by omega)]
end
open VametBase (done within)
structure zCr(K:PySem.W.Frag)(mg:Str->Option Value)(x:Str)(C:Addr):Prop where
 gl:mg x=some (.ref C)
 ex:PySem.W.excIn K C [.type "Exception",.type "BaseException",.type "object"] "Exception.__new__" =true
 flat:zEi K C=true
section
variable {P:Program} {w:World} {K:PySem.W.Frag} {mg:Str->Option Value} {base:Heap} {C fI CN:Addr}
theorem zA3{H:Hp}{x dx:Addr}{o:HO}(h1:H x=none)(h2:H dx=none):Same H (upd (upd H dx (.own x)) x o):=fun b u e=>by
 rw[zAj (zAo e h1),zAj (zAo e h2)]
 exact e
noncomputable def yA0(C CN:Addr):Sp:=fun vs H Q E=>∃n a b:Int,vs= [.int n,.int a,.int b]/\(match VametBase.whole VametBase.readBound [n,a,b]with
 | some v=>∀H' p,Same H H'->H p=none->BoundAt C H' p v->Q (.ref p) H'
 | none=>∀H',Same H H'->E (.ref CN) none H')
noncomputable abbrev s9:Stmt:=top 12
theorem sc9:zAg ["length","first","second","bound"] ["length","first","second"] (zAc s9):= fsc
theorem ok9{f fh:Addr}(F:DefAt K mg "bound_as_told" s9 f)(B:zD5 K mg C fI)(N:zCr K mg "NotAsTold" CN)(c1:zDc mg "GREATEST_LENGTH" 8)(c2:zDc mg "FARTHEST_NUMBER" 99)(c3:zDc mg "MOST_INPUTS" 1500)
  (CI:L2.Callee P w K mg base 1 fI ["self","length","first","second"] (spB C)) (mh:mg "how_many_inputs" =some (.ref fh)) (Ch:L2.Callee P w K mg base 1 fh ["bound"] (zSb C)):
  L2.Callee P w K mg base 3 f ["length","first","second"] (yA0 C CN):=by
 obtain⟨t1,c1⟩:=c1
 obtain⟨t2,c2⟩:=c2
 obtain⟨t3,c3⟩:=c3
 refine F.calleeE sc9 (fun vs H Q E h=>?_) (fun _ _ _ _ _ _=>b3 fun _ _ _=>rfl) (fun cdv A outer s H vs Q E hr hw h=>?_)
 ·obtain⟨n,a,b,rfl,_⟩:=h
  rfl
 ·obtain⟨n,a,b,rfl,k⟩:=h
  have hr1:Room 1 _:=hr.mono (by decide)
  have rs:∀{np cp p:Pos},PS (zL8 (CXe P w) P w K mg base ["length","first","second","bound"] "bound_as_told" (zAc s9) f cdv A outer s H E) (.Raise (some (.Call (.Name "NotAsTold" np) [] [] cp)) none p) (zS9 CN E):=
   fun {np cp p}=>zDg hw rfl (by rfl) N.gl PySem.F.excBase_Exception N.ex
  refine⟨_,zAe (zCk (zJn (zA6 zMg (pv 0) zAp (zA0 _)) (zHp (zA6 zF9 (pv 0) (zAr (v:= .int 8) (by rfl) c1 ⟨t1,rfl⟩) (zA0 _)))).pt (zAf rs) zA5)
   (zAe (zCk (zJn (zA6 zMg (pv 1) (zIg zE5 (zAr (v:= .int 99) (by rfl) c2 ⟨t2,rfl⟩)) (zA0 _)) (zJn (zA6 zF9 (pv 2) (zAr (v:= .int 99) (by rfl) c2 ⟨t2,rfl⟩) (zA0 _)) (zHp (zA6 zF9 (pv 1) (pv 2) (zA0 _))))).pt (zAf rs) zA5)
   (zAe (zAq (i:=3) sc9.nd rfl (Or.inl rfl) (zB0 (E:=E0) B.make CI hr (by rfl) B.gl zAm (zAa (pv 0) (zAa (pv 1) (zAa (pv 2) zAd)))))
   (zAe (zCk (zA6 zF9 (zAh (E:=E0) Ch hr1 (by rfl) mh zAm (zAa (pv 3) zAd)) (zAr (v:= .int 1500) (by rfl) c3 ⟨t3,rfl⟩) (zA0 _)) (zAf rs) zA5)
   (zAf (zAi (pv 3)))))),?_⟩
  rw[zI9]at k
  have bad:¬(0<=n/\n<=8/\-99<=a/\b<=99/\a<=b/\zAz ((b - a+1).toNat) n.toNat<=1500)->∀H',Same H H'->E (.ref CN) none H':=fun hn=>by
   rw[if_neg hn]at k
   exact k
  refine (zq rfl ⟨_,(zq rfl ⟨rfl,(zq rfl (zD2 (fun e=>?_) fun e=>(zq rfl ⟨_,(zq rfl ⟨rfl,(zq rfl ?_)⟩)⟩)))⟩)⟩)
  ·exact zE6 (bad (by have:=of_decide_eq_true e;omega) H (Same.refl H))
  have e:¬n < 0:=fun z=>e (decide_eq_true z)
  refine zD2 (fun e2=>?_) fun e2=>?_
  ·exact bad (by have:=of_decide_eq_true e2;omega) H (Same.refl H)
  have e2:¬8 < n:=fun z=>e2 (decide_eq_true z)
  refine (zq rfl (zq rfl ⟨_,(zq rfl ⟨rfl,(zq rfl (zD2 (fun e3=>?_) fun e3=>(zq rfl ⟨_,(zq rfl ⟨rfl,(zq rfl (zD2 (fun e4=>?_) fun e4=>(zq rfl (zq rfl ⟨_,(zq rfl ⟨rfl,(zq rfl ?_)⟩)⟩))))⟩)⟩)))⟩)⟩))
  ·exact zE6 (bad (by have e3:a < -99:=of_decide_eq_true e3;omega) H (Same.refl H))
  ·exact zE6 (bad (by have e4:99 < b:=of_decide_eq_true e4;omega) H (Same.refl H))
  have e3:¬a < -99:=fun z=>e3 (decide_eq_true z)
  have e4:¬99 < b:=fun z=>e4 (decide_eq_true z)
  refine zD2 (fun e5=>?_) fun e5=>?_
  ·exact bad (by have:=of_decide_eq_true e5;omega) H (Same.refl H)
  have e5:¬b < a:=fun z=>e5 (decide_eq_true z)
  refine (zq rfl (zq rfl (zq rfl (fun x dx hx hdx hne=>?_))))
  refine ⟨x,dx,_,_,(zq rfl ⟨zAb,rfl,?_⟩)⟩
  rw[zBh]
  have hB:BoundAt C (upd (upd H dx (.own x)) x (.ins C dx (bF (.int n) (.int a) (.int b)))) x ⟨n.toNat,a,b⟩:=⟨dx,by
   rw[zAb]
   show some (HO.ins C dx (bF (.int n) (.int a) (.int b)))=some (HO.ins C dx (bF (.int ((n.toNat:Nat):Int)) (.int a) (.int b)))
   rw[Int.toNat_of_nonneg (by omega)]⟩
  have ok:okB ⟨n.toNat,a,b⟩:=⟨by show n.toNat<=8;omega,by show -99<=a;omega,by show a<=b;omega,by show b<=99;omega⟩
  have sm:Same H (upd (upd H dx (.own x)) x (.ins C dx (bF (.int n) (.int a) (.int b)))):=zA3 hx hdx
  refine (zq rfl ⟨x,(zq rfl ⟨hB,ok,_,(zq rfl ⟨rfl,(zq rfl ?_)⟩)⟩)⟩)
  show if decide ((1500:Int) < ((zAz ((b - a+1).toNat) n.toNat:Nat):Int))=true then _ else _
  refine zD2 (fun e6=>?_) fun e6=>?_
  ·exact bad (by have:=of_decide_eq_true e6;omega) _ sm
  ·have e6:¬(1500:Int) < ((zAz ((b - a+1).toNat) n.toNat:Nat):Int):=fun z=>e6 (decide_eq_true z)
   rw[if_pos ⟨by omega,by omega,by omega,by omega,by omega,by omega⟩]at k
   exact (zq rfl (k _ _ sm hx hB))
end
open VametBase (done within)
section
variable {A H H' H2:Hp} {D p:Addr} {o:HO} {acc:List V} {es:List WData}
theorem zTc{n:Nat}(h:n<=1000000):n < sizeLine:=Nat.lt_of_le_of_lt h (by decide)
theorem zCv:wo (mix A H (upd H' D o)) D=wo (mix A H H') D:=by
 funext b
 by_cases h:b=D
 ·rw[h,zFh,zFh]
 ·rw[zEj h,zEj h]
  unfold mix
  rw[zAj h]
theorem zNu{l:List Int}(sm:Same H H')(hq:H' D=some (.lst acc))(d:DmAll (wo (mix A H H') D) acc es)(sm2:Same H' H2)(hp:H' p=none)(hp2:H2 p=some (.lst (l.map V.int))):DmAll (wo (mix A H (upd H2 D o)) D) (acc++ [.ref p]) (es++ [zCl l]):=by
 rw[zCv]
 refine(d.same (Same.wo (zCz sm2))).snoc (Dm.row ?_)
 rw[zEj (zAo hq hp).symm,zA7 (sm.free hp)]
 exact hp2
end
section
variable {P:Program} {w:World} {K:PySem.W.Frag} {mg:Str->Option Value} {base:Heap} {C fI CN:Addr}
noncomputable def zDm(b:zDa)(r:zC0):List zC0:=(List.range (VametBase.width b)).map fun d=>r++ [b.lo+VametBase.int d]
noncomputable def zWc(C:Addr):Sp:=fun vs H Q _=>∃(A:Hp) (v:V) (a:Addr) (rs:List zC0) (b:zDa),vs= [v,.ref a]/\Same A H/\Dm A v (.list (rs.map zCl))/\BoundAt C H a b/\okB b/\(∀r∈rs,r.length<=20)/\rs.length<=2000/\
 ∀H' v',Same H H'->Dm (mix A H H') v' (.list ((rs.flatMap (zDm b)).map zCl))->Q v' H'
noncomputable abbrev s10:Stmt:=top 13
theorem sc10:zAg ["rows","bound","longer","row","number"] ["rows","bound"] (zAc s10):= fsc
theorem zLp{b:zDa}{r:zC0}{j:Nat}(h:j < VametBase.width b):(zDm b r)[j]? =some (r++ [b.lo+VametBase.int j]):=by
 unfold zDm
 rw[List.getElem?_map,List.getElem?_range h]
 rfl
theorem yD7{f:Addr}(F:DefAt K mg "one_longer" s10 f)(Bl:Blt mg)(B:zD5 K mg C fI):L2.Callee P w K mg base 1 f ["rows","bound"] (zWc C):=by
 refine F.callee0 sc10 (fun vs H Q E h=>?_) (fun _ _ _ _ _ _=>b2 fun _ _=>rfl) (fun cdv A outer s H vs Q E hr h=>?_)
 ·obtain⟨_,v,a,_,_,rfl,_⟩:=h
  rfl
 ·obtain⟨Ar,v,a,rs,b,rfl,sA,dv,⟨dx,hb⟩,ok,hlen,hcnt,k⟩:=h
  have hwi:=zF0 ok
  have hwl:=zNt ok
  obtain⟨ra,xs,rfl,hra,hxs⟩:=Dm.list_inv dv
  have hxl:xs.length=rs.length:=by rw[hxs.length,List.length_map]
  refine⟨_,zAe (zAq (i:=2) sc10.nd rfl (Or.inl rfl) (zA4 zAd))
   (zAe (zC9 PassesOwn.never rfl (zBo (pv 0)) (zAv (i:=3) sc10.nd rfl (Or.inl rfl))
    (zAf (zC9 PassesOwn.never rfl (zPh rfl Bl.range (zAa (zAl (pv 1) rfl) (zAa (zC3 zPk (zAl (pv 1) rfl) zAp) zAd))) (zAv (i:=4) sc10.nd rfl (Or.inl rfl))
     (zAf (zC8 (zFc PySem.F.plainAttrs_list PySem.F.slot_list_append PySem.F.type_list_append zEf (pv 2) (zAa (zC3 zK6 (pv 3) (zA4 (zAa (pv 4) zAd))) zAd)))))))
   (zAf (zAi (pv 2)))),?_⟩
  refine⟨(by show 0<=sizeLine;decide),fun D hD=>?_⟩
  refine⟨_,rfl,ra,rfl,⟨_,SqL.of (Same.upd hD _ _ (sA _ _ hra))⟩,zDx (K:=K) (a:=ra) (xs:=xs) (fun i σ H'=>∃v3 v4:Option V,σ= [some (.ref ra),some (.ref a),some (.ref D),v3,v4]/\Same H H'/\∃acc,H' D=some (.lst acc)/\DmAll (wo (mix Ar H H') D) acc (((rs.take i).flatMap (zDm b)).map zCl))
   ⟨none,none,rfl,Same.upd hD,[],zAb,.nil⟩ (fun i σ H' _ ⟨_,_,_,e,_⟩=>SqL.of (e _ _ (sA _ _ hra))) ?_ ?_⟩
  ·rintro i y σ H' hi ⟨v3,v4,rfl,e,acc,hq,dq⟩
   obtain⟨d,hdi,dy⟩:=hxs.get hi
   rw[List.getElem?_map]at hdi
   obtain⟨r,hr',rfl⟩:∃r,rs[i]? =some r/\d=zCl r:=by
    cases q:rs[i]? with
    | none=>rw[q]at hdi;cases hdi
    | some r=>rw[q]at hdi;exact⟨r,rfl,(Option.some.inj hdi).symm⟩
   obtain⟨rr,rfl,hrr⟩:=Dm.row_inv dy
   have hrl:=hlen r (List.mem_of_getElem? hr')
   have him:i < rs.length:=(List.getElem?_eq_some_iff.mp hr').1
   have hout:((rs.take i).flatMap (zDm b)).length<=2000 * 199:=by
    rw[zA1 (m:=VametBase.width b) (fun x=>by unfold zDm;rw[List.length_map,List.length_range]),List.length_take]
    exact Nat.mul_le_mul (by omega) hwl
   refine (zq rfl (zf (e _ _ hb) B.cl B.n2 (zNs _ _ _) (zq rfl (zf (e _ _ hb) B.cl B.n3 (zLo _ _ _) ⟨_,(zq rfl ⟨rfl,b.lo,b.hi+1,rfl,(by obtain⟨_,_,_,_⟩:=ok;omega),?_⟩)⟩))))
   have en:(b.hi+1 - b.lo).toNat=VametBase.width b:=by omega
   rw[en]
   refine zFr (n:=VametBase.width b) (fun j σ H'=>∃v4:Option V,σ= [some (.ref ra),some (.ref a),some (.ref D),some (.ref rr),v4]/\Same H H'/\∃acc,H' D=some (.lst acc)/\DmAll (wo (mix Ar H H') D) acc ((((rs.take i).flatMap (zDm b)) ++ ((zDm b r).take j)).map zCl))
    ⟨v4,rfl,e,acc,hq,by rw[List.take_zero,List.append_nil];exact dq⟩ ?_ ?_
   ·rintro j σ H'' hj ⟨v4,rfl,e',acc,hq,dq⟩
    have hrr':=e' _ _ (sA _ _ hrr)
    have hal:acc.length<=2000 * 199+199:=by
     rw[dq.length,List.length_map,List.length_append,List.length_take]
     omega
    refine (zq rfl ⟨.inl ⟨rfl,_,SqL.of hq⟩,(zq rfl (zq rfl ⟨(by show 1<=sizeLine;decide),fun l1 hl1=>?_⟩))⟩)
    have sm1:Same H'' (upd H'' l1 (.lst [.int (b.lo+ (j:Int))])):=Same.upd hl1
    refine ⟨rr,l1,_,(zq rfl ⟨rfl,sm1 _ _ hrr',zAb,(by rw[List.length_map];exact zEa (by show r.length+1<=_;omega)),fun p hp=>?_⟩)⟩
    have sm2:Same H'' (upd (upd H'' l1 (.lst [.int (b.lo+ (j:Int))])) p (.lst (r.map V.int++ [.int (b.lo+ (j:Int))]))):=sm1.trans (Same.upd hp)
    refine ⟨D,_,(zq rfl ⟨rfl,sm2 _ _ hq,zTc (by omega),?_⟩)⟩
    refine⟨some (.int (b.lo+ (j:Int))),rfl,(e'.trans sm2).updR hD,_,zAb,?_⟩
    rw[zA2 (zLp hj),<-List.append_assoc,List.map_append]
    refine zNu e' hq dq sm2 (sm1.free hp) ?_
    rw[zAb,List.map_append]
    rfl
   ·rintro σ H'' ⟨v4,rfl,e',acc,hq,dq⟩
    refine⟨some (.ref rr),v4,rfl,e',acc,hq,?_⟩
    have el:(zDm b r).length=VametBase.width b:=by unfold zDm;rw[List.length_map,List.length_range]
    rw[<-el,List.take_length]at dq
    rw[zA2 hr',List.flatMap_append]
    simpa using dq
  ·rintro σ H' ⟨v3,v4,rfl,e,acc,hq,dq⟩
   rw[hxl,List.take_length]at dq
   exact (zq rfl (k H' _ e (.lst (zAs hD hq) (dq.same wo_same))))
noncomputable def A0:Hp:=fun _=>none
theorem zBv{H:Hp}:Same A0 H:=fun b o e=>by cases e
theorem zGg(lo:Int)(w:Nat):∀(n:Nat),∀r∈zCh lo w n,r.length=n
 | 0,r,h=>by
  have:r= []:=by simpa [zCh]using h
  rw[this];rfl
 | n+1,r,h=>by
  have h:r∈(zCh lo w n).flatMap fun r=>(List.range w).map fun d=>r++ [lo+VametBase.int d]:=h
  obtain⟨q,hq,hr⟩:=List.mem_flatMap.mp h
  obtain⟨d,_,rfl⟩:=List.mem_map.mp hr
  rw[List.length_append,zGg lo w n q hq]
  rfl
noncomputable def yA1(C:Addr):Sp:=fun vs H Q _=>∃(a:Addr) (b:zDa),vs= [.ref a]/\BoundAt C H a b/\okB b/\zAz (VametBase.width b) b.long<=1500/\∀H' v,Same H H'->Dm (mix A0 H H') v (.list ((zCc b.lo (VametBase.width b) b.long).map zCl))->Q v H'
noncomputable abbrev s11:Stmt:=top 14
theorem sc11:zAg ["bound","as_long","rows","length"] ["bound"] (zAc s11):= fsc
theorem yD8{f fo:Addr}(F:DefAt K mg "inputs_in_order" s11 f)(Bl:Blt mg)(B:zD5 K mg C fI)(mo:mg "one_longer" =some (.ref fo))(Co:L2.Callee P w K mg base 1 fo ["rows","bound"] (zWc C)):L2.Callee P w K mg base 2 f ["bound"] (yA1 C):=by
 refine F.callee0 sc11 (fun vs H Q E h=>?_) (fun _ _ _ _ _ _=>b1 fun _=>rfl) (fun cdv A outer s H vs Q E hr h=>?_)
 ·obtain⟨a,_,rfl,_⟩:=h
  rfl
 ·obtain⟨a,b,rfl,hB,ok,htot,k⟩:=h
  obtain⟨dx,hb⟩:=id hB
  have hw1:=zQi ok
  refine⟨_,zAe (zAq (i:=1) sc11.nd rfl (Or.inl rfl) (zA4 (zAa (zA4 zAd) zAd))) (zAe (zAq (i:=2) sc11.nd rfl (Or.inl rfl) (zA4 (zAa (zA4 zAd) zAd)))
   (zAe (zC9 PassesOwn.never rfl (zC1 rfl Bl.range (zAa (zAl (pv 0) rfl) zAd)) (zAv (i:=3) sc11.nd rfl (Or.inl rfl))
    (zAe (zAq (i:=1) sc11.nd rfl (Or.inl rfl) (zAh (E:=E0) Co hr (by rfl) mo zAm (zAa (pv 1) (zAa (pv 0) zAd))))
     (zAf (zC8 (zFc PySem.F.plainAttrs_list PySem.F.slot_list_extend PySem.F.type_list_extend zDo (pv 2) (zAa (pv 1) zAd))))))
   (zAf (zAi (pv 2))))),?_⟩
  refine⟨(by show 0<=sizeLine;decide),fun e1 he1=>⟨(by show 1<=sizeLine;decide),fun l1 hl1=>?_⟩⟩
  refine⟨(by show 0<=sizeLine;decide),fun e2 he2=>⟨(by show 1<=sizeLine;decide),fun R hR=>?_⟩⟩
  generalize hH1:upd H e1 (.lst [])=H1 at hl1 he2 hR
  have sm1:Same H H1:=by rw[<-hH1];exact Same.upd he1
  have q1:H1 e1=some (.lst []):=by rw[<-hH1];exact zAb
  generalize hH2:upd H1 l1 (.lst [.ref e1])=H2 at he2 hR
  have sm2:Same H1 H2:=by rw[<-hH2];exact Same.upd hl1
  have q2:H2 l1=some (.lst [.ref e1]):=by rw[<-hH2];exact zAb
  generalize hH3:upd H2 e2 (.lst [])=H3 at hR
  have sm3:Same H2 H3:=by rw[<-hH3];exact Same.upd he2
  have q3:H3 e2=some (.lst []):=by rw[<-hH3];exact zAb
  have sm4:Same H3 (upd H3 R (.lst [.ref e2])):=Same.upd hR
  have sm:Same H (upd H3 R (.lst [.ref e2])):=((sm1.trans sm2).trans sm3).trans sm4
  have fR:H R=none:=((sm1.trans sm2).trans sm3).free hR
  have f1:H e1=none:=he1
  have f2:H e2=none:=(sm1.trans sm2).free he2
  have fl1:H l1=none:=sm1.free hl1
  have p1:H3 l1=some (.lst [.ref e1]):=sm3 _ _ q2
  have p2:H3 e1=some (.lst []):=sm3 _ _ (sm2 _ _ q1)
  have dl:Dm (wo (mix A0 H (upd H3 R (.lst [.ref e2]))) R) (.ref l1) (.list ([[]].map zCl)):=by
   refine .lst (xs:=[.ref e1]) ?_ (.cons (.lst (xs:=[]) ?_ .nil) .nil)
   ·rw[zEj (zAo p1 hR),zA7 fl1];exact sm4 _ _ p1
   ·rw[zEj (zAo p2 hR),zA7 f1];exact sm4 _ _ p2
  have dr:DmAll (wo (mix A0 H (upd H3 R (.lst [.ref e2]))) R) [.ref e2] ([[]].map zCl):=by
   refine .cons (.lst (xs:=[]) ?_ .nil) .nil
   rw[zEj (zAo q3 hR),zA7 f2];exact sm4 _ _ q3
  refine (zq rfl (zf (sm _ _ hb) B.cl B.n1 (zLn _ _ _) ⟨(b.long:Int),rfl,(by have:=ok.1;omega),(by have:=ok.1;omega),?_⟩))
  rw[Int.toNat_natCast]
  refine zFr (n:=b.long) (fun i σ H'=>∃(al:V) (v:Option V),σ= [some (.ref a),some al,some (.ref R),v]/\Same H H'/\Dm (wo (mix A0 H H') R) al (.list ((zCh b.lo (VametBase.width b) i).map zCl))/\∃acc,H' R=some (.lst acc)/\DmAll (wo (mix A0 H H') R) acc ((zCc b.lo (VametBase.width b) i).map zCl))
   ⟨.ref l1,none,rfl,sm,dl,_,zAb,dr⟩ ?_ ?_
  ·rintro i σ H' hi ⟨al,v,rfl,e,dal,acc,hq,dq⟩
   have hc:(zCh b.lo (VametBase.width b) i).length<=1500:=by
    rw[zFm _ hw1]
    exact Nat.le_trans (zGo _ i) (Nat.le_trans (zDe _ (by omega)) htot)
   have hc2:(zCc b.lo (VametBase.width b) (i+1)).length<=1500:=by
    rw[zDj _ hw1]
    exact Nat.le_trans (zDe _ (by omega)) htot
   refine (zq rfl (zq rfl ⟨wo (mix A0 H H') R,al,a,_,b,rfl,wo_same.trans (zBs zBv e),dal,⟨dx,e _ _ hb⟩,ok,fun r hr=>?_,(by omega),fun H2 v2 e2 dv2=>?_⟩))
   ·rw[zGg _ _ i r hr];have:=ok.1;omega
   have dv3:Dm (wo (mix A0 H H2) R) v2 (.list ((zCh b.lo (VametBase.width b) (i+1)).map zCl)):=dv2.same (zP9 e e2 (by rw[hq];rfl))
   obtain⟨a2,xs2,rfl,ha2,hx2⟩:=Dm.list_inv dv3
   have ha2':H2 a2=some (.lst xs2):=(wo_same.trans (zBs zBv (e.trans e2))) _ _ ha2
   have hq2:=e2 _ _ hq
   have hlen:acc.length+xs2.length<=1500:=by
    have l1:=dq.length
    have l2:=hx2.length
    rw[List.length_map]at l1 l2
    have:(zCc b.lo (VametBase.width b) (i+1)).length=(zCc b.lo (VametBase.width b) i).length+ (zCh b.lo (VametBase.width b) (i+1)).length:=List.length_append
    omega
   refine (zq rfl ⟨.inl ⟨rfl,_,SqL.of hq2⟩,(zq rfl ⟨R,a2,acc,xs2,rfl,rfl,hq2,ha2',zEa (by omega),?_⟩)⟩)
   refine⟨.ref a2,some (.int (0+ (i:Int))),rfl,(e.trans e2).updR fR,?_,_,zAb,?_⟩
   ·rw[zCv];exact dv3
   ·rw[zCv]
    show DmAll _ _ ((zCc b.lo (VametBase.width b) i++zCh b.lo (VametBase.width b) (i+1)).map zCl)
    rw[List.map_append]
    exact(dq.same (Same.wo (zCz e2))).append hx2
  ·rintro σ H' ⟨al,v,rfl,e,dal,acc,hq,dq⟩
   exact (zq rfl (k H' _ e (.lst (zAs fR hq) (dq.same wo_same))))
end
noncomputable def Keep(r:Addr)(H H':Hp):Prop:=(∀b o,H b=some o->b≠r->H' b=some o)/\((H r).isSome=true->(H' r).isSome=true)
section
variable {r D:Addr} {A H H1 H2:Hp}
theorem Keep.refl(r:Addr)(H:Hp):Keep r H H:=⟨fun _ _ e _=>e,fun e=>e⟩
theorem Keep.trans(a:Keep r H H1)(b:Keep r H1 H2):Keep r H H2:=⟨fun c o e n=>b.1 c o (a.1 c o e n) n,fun e=>b.2 (a.2 e)⟩
theorem Keep.of(e:Same H H1):Keep r H H1:=⟨fun b o h _=>e b o h,fun h=>by
 obtain⟨o,q⟩:=Option.isSome_iff_exists.mp h
 rw[e _ _ q];rfl⟩
theorem Keep.upd{o:HO}(h:(H r).isSome=true):Keep r H (L2.upd H r o):=⟨fun b u e n=>by rw[zAj n];exact e,fun _=>by rw[zAb];rfl⟩
theorem Keep.free{b:Addr}(k:Keep r H H1)(h:H1 b=none):H b=none:=by
 cases q:H b with
 | none=>rfl
 | some o=>
  by_cases e:b=r
  ·subst e
   have:=k.2 (by rw[q];rfl)
   rw[h]at this
   cases this
  ·rw[k.1 b o q e]at h
   cases h
theorem Keep.mix(k:Keep r H1 H2)(hr:(H r).isSome=true):Same (L2.mix A0 H H1) (L2.mix A0 H H2):=fun b o e=>by
 cases q:H b with
 | some u=>rw[zA8 q]at e;cases e
 | none=>
  rw[zA7 q]at e ⊢
  exact k.1 b o e fun z=>by rw[z]at q;rw[q]at hr;cases hr
theorem Keep.mixN(k:Keep r H H1):Same (L2.mix A0 H1 H2) (L2.mix A0 H H2):=fun b o e=>by
 cases q:H1 b with
 | some u=>rw[zA8 q]at e;cases e
 | none=>
  rw[zA7 q]at e
  rw[zA7 (k.free q)]
  exact e
theorem Keep.mixW(k:Keep r H H1)(hD:(H1 D).isSome=true):Same (L2.mix A0 H1 H2) (wo (L2.mix A0 H H2) D):=fun b o e=>by
 have hb:b≠D:=fun z=>by
  subst z
  obtain⟨u,q⟩:=Option.isSome_iff_exists.mp hD
  rw[zA8 q]at e
  cases e
 rw[zEj hb]
 exact k.mixN b o e
theorem Keep.mixI{A:Hp}(k:Keep r H H1)(sA:Same A H)(h:A r=none):Same (L2.mix A H H1) H1:=fun b o e=>by
 cases q:H b with
 | none=>rw[zA7 q]at e;exact e
 | some u=>rw[zA8 q]at e;exact k.1 b o (sA b o e) (zAo e h)
theorem Keep.sqL{K:PySem.W.Frag}{la C dx:Addr}{fs:List (Str×V)}{xs:List V}(k:Keep r H H1)(h:SqL K H la xs)(hr:H r=some (.ins C dx fs)):SqL K H1 la xs:=by
 rcases h with(h | ⟨o,h⟩) | h
 ·exact .inl (.inl (k.1 _ _ h (zEw h hr (by intro z;cases z))))
 ·exact .inl (.inr ⟨o,k.1 _ _ h (zEw h hr (by intro z;cases z))⟩)
 ·exact .inr h
end
noncomputable def rF(n p:V):List (Str×V):=zA9 "place" p (zA9 "numbers" n [])
theorem zJa(n p:V):(rF n p).lookup ("numbers":Str)=some n:=by kernel_rfl
theorem zJz(n p:V):(rF n p).lookup ("place":Str)=some p:=by kernel_rfl
theorem zFi(n p:V){m:Str}(h1:¬m= "place")(h2:¬m= "numbers"):(rF n p).lookup m=none:=by
 unfold rF
 rw[zBr,if_neg h1,zBr,if_neg h2]
 rfl
theorem zWd(n p q:V):zA9 "place" q (rF n p)=rF n q:=by
 have e:¬(("numbers":Str)= "place"):=by decide +kernel
 unfold rF
 simp only [zA9,if_neg e,if_true]
structure zBw(K:PySem.W.Frag)(mg:Str->Option Value)(C fI fD fN fW fR:Addr):Prop where
 gl:mg "Reader" =some (.ref C)
 cl:Cls K C
 make:Mk K C fI
 n1:NoAttr K C "numbers"
 n2:NoAttr K C "place"
 mD:zMj K C "is_done" fD
 mN:zMj K C "take_number" fN
 mW:zMj K C "take_within" fW
 mR:zMj K C "take_row" fR
structure ReaderAt(K:PySem.W.Frag)(C:Addr)(H:Hp)(r la:Addr)(l:List Int)(p:Nat):Prop where
 obj:∃dx,H r=some (.ins C dx (rF (.ref la) (.int (p:Int))))
 lst:SqL K H la (l.map V.int)
 le:p<=l.length
 len:l.length<=10000
section
variable {K:PySem.W.Frag} {C:Addr} {H H' H1:Hp} {r la D:Addr} {l:List Int} {p:Nat} {o:HO} {xs:List V}
theorem ReaderAt.there(h:ReaderAt K C H r la l p):(H r).isSome=true:=by
 obtain⟨dx,e⟩:=h.obj
 rw[e];rfl
theorem ReaderAt.same(h:ReaderAt K C H r la l p)(e:Same H H'):ReaderAt K C H' r la l p:=by
 obtain⟨⟨dx,q⟩,hs,h1,h2⟩:=h
 exact⟨⟨dx,e _ _ q⟩,e.seq hs,h1,h2⟩
theorem ReaderAt.upd(h:ReaderAt K C H r la l p)(h1:SqL K H1 la (l.map V.int))(hD:H1 D=none)(hr:D≠r):ReaderAt K C (L2.upd H D o) r la l p:=by
 obtain⟨⟨dx,q⟩,hs,h2,h3⟩:=h
 refine⟨⟨dx,by rw[zAj hr.symm];exact q⟩,?_,h2,h3⟩
 have ne:(∃u,H1 la=Option.some u)->la≠D:=fun⟨u,e⟩=>zAo e hD
 have go:la≠D->SqL K (L2.upd H D o) la (l.map V.int):=fun n=>by
  rcases hs with(hs | ⟨u,hs⟩) | hs
  ·exact .inl (.inl (by rw[zAj n];exact hs))
  ·exact .inl (.inr ⟨u,by rw[zAj n];exact hs⟩)
  ·exact .inr hs
 rcases h1 with(h1 | ⟨u,h1⟩) | h1
 ·exact go (ne ⟨_,h1⟩)
 ·exact go (ne ⟨_,h1⟩)
 ·exact .inr h1
theorem Keep.updN(k:Keep r H1 H)(hD:H1 D=none)(hr:D≠r):Keep r H1 (L2.upd H D o):=⟨fun b u e n=>by
 rw[zAj (zAo e hD)]
 exact k.1 b u e n,fun e=>by rw[zAj hr.symm];exact k.2 e⟩
end
noncomputable def zKk{α:Type}(K:PySem.W.Frag)(C CN:Addr)(rd:VametBase.Reader α)(Res:α->Hp->V->Prop):Sp:=fun vs H Q E=>∃r la l p,vs= [.ref r]/\ReaderAt K C H r la l p/\(match rd (l.drop p)with
 | some (x,rest)=>∀H' v q,Keep r H H'->ReaderAt K C H' r la l q->l.drop q=rest->Res x (mix A0 H H') v->Q v H'
 | none=>∀H',Keep r H H'->E (.ref CN) none H')
section
variable {P:Program} {w:World} {K:PySem.W.Frag} {mg:Str->Option Value} {base:Heap} {C fI fD fN fW fR CN:Addr}
noncomputable abbrev s78(i:Nat):Stmt:=zBk (top 92) i
theorem zY0:zAg ["self","numbers"] ["self","numbers"] (zAc (s78 0)):= fsc
noncomputable def zY1(C:Addr):Sp:=fun vs H Q _=>∃(p dx:Addr) (n:V),vs= [.ref p,n]/\H p=some (.ins C dx [])/\Q .non (upd H p (.ins C dx (rF n (.int 0))))
theorem zY2(F:∃fd,Fun K "__init__" "Reader.__init__" (s78 0) fI fd)(R:zBw K mg C fI fD fN fW fR):L2.Callee P w K mg base 1 fI ["self","numbers"] (zY1 C):=by
 refine Fun.callee0 F zY0 (fun vs H Q E h=>?_) (fun _ _ _ _ _ _=>b2 fun _ _=>rfl) (fun cdv A outer s H vs Q E hr h=>?_)
 ·obtain⟨p,dx,n,rfl,_⟩:=h
  rfl
 ·obtain⟨p,dx,n,rfl,hp,k⟩:=h
  refine⟨_,zAe (zBn (pv 0) (pv 1) rfl) (zAf (zBn (pv 0) zAp rfl)),?_⟩
  refine (zq rfl (zq rfl ⟨p,C,dx,[],rfl,hp,R.cl,R.n1,(by show 0 < 1000;decide),?_⟩))
  refine (zq rfl ⟨p,C,dx,(zq rfl ⟨zAb,R.cl,R.n2,(by show 1 < 1000;decide),?_⟩)⟩)
  rw[zBh]
  exact k
theorem zY3:zAg ["self"] ["self"] (zAc (s78 1)):= fsc
noncomputable def zNv(K:PySem.W.Frag)(C:Addr):Sp:=fun vs H Q _=>∃r la l p,vs= [.ref r]/\ReaderAt K C H r la l p/\Q (.bl (decide (l.drop p= []))) H
theorem zY4(F:∃fd,Fun K "is_done" "Reader.is_done" (s78 1) fD fd)(Bl:Blt mg)(R:zBw K mg C fI fD fN fW fR):L2.Callee P w K mg base 1 fD ["self"] (zNv K C):=by
 refine Fun.callee0 F zY3 (fun vs H Q E h=>?_) (fun _ _ _ _ _ _=>b1 fun _=>rfl) (fun cdv A outer s H vs Q E hr h=>?_)
 ·obtain⟨r,la,l,p,rfl,_⟩:=h
  rfl
 ·obtain⟨r,la,l,p,rfl,⟨⟨dx,hr1⟩,hs,hp,hl⟩,k⟩:=h
  refine⟨_,zAf (zAi (zBd zIh (zAl (pv 0) rfl) (zAn zAk (by rfl) Bl.len PySem.boot_len (zAa (zAl (pv 0) rfl) zAd)) (zA0 _))),?_⟩
  refine (zq rfl (zf hr1 R.cl R.n2 (zJz _ _) (zq rfl (zf hr1 R.cl R.n1 (zJa _ _) ⟨la,(zq rfl ⟨.inl hs,rfl,?_⟩)⟩))))
  rw[List.length_map]
  have e:decide (V.int (p:Int)=V.int (l.length:Int))=decide (l.drop p= []):=by
   rw[Bool.eq_iff_iff,decide_eq_true_iff,decide_eq_true_iff,List.drop_eq_nil_iff]
   constructor
   ·intro h;have:=V.int.inj h;omega
   ·intro h;rw[show p=l.length by omega]
  rw[e]
  exact k
theorem sc782:zAg ["self","number"] ["self"] (zAc (s78 2)):= fsc
noncomputable def zSc:VametBase.Reader Int:=fun x=>match x with
 | []=>none
 | z::r=>some (z,r)
noncomputable def zWe:Int->Hp->V->Prop:=fun x _ v=>v= .int x
theorem zY5(F:∃fd,Fun K "take_number" "Reader.take_number" (s78 2) fN fd)(R:zBw K mg C fI fD fN fW fR)(N:zCr K mg "NotAsTold" CN)(CD:L2.Callee P w K mg base 1 fD ["self"] (zNv K C)):L2.Callee P w K mg base 2 fN ["self"] (zKk K C CN zSc zWe):=by
 refine Fun.calleeE F sc782 (fun vs H Q E h=>?_) (fun _ _ _ _ _ _=>b1 fun _=>rfl) (fun cdv A outer s H vs Q E hr hw h=>?_)
 ·obtain⟨r,la,l,p,rfl,_⟩:=h
  rfl
 ·obtain⟨r,la,l,p,rfl,hR,k⟩:=h
  obtain⟨⟨dx,hr1⟩,hs,hp,hl⟩:=id hR
  refine⟨_,zAe (zCk (zBb (zCq (E:=E0) (pv 0) R.cl R.mD CD hr zAm) (fun _=>rfl)) (zAf (zDg hw rfl (by rfl) N.gl PySem.F.excBase_Exception N.ex)) zA5)
   (zAe (zAq (i:=1) sc782.nd rfl (Or.inl rfl) (zBi zBj (zAl (pv 0) rfl) (zAl (pv 0) rfl) (fun _ _=>rfl)))
   (zAe (zPn (pv 0) zAp zS2) (zAf (zAi (pv 1))))),?_⟩
  refine (zq rfl ⟨r,dx,(zq rfl ⟨hr1,zFi _ _ (by decide +kernel) (by decide +kernel),r,la,l,p,rfl,hR,(zq rfl ?_)⟩)⟩)
  cases hd:l.drop p with
  | nil=>
   rw[hd]at k
   rw[decide_eq_true rfl]
   exact zE6 (k H (Keep.refl r H))
  | cons z rest=>
   rw[hd]at k
   rw[decide_eq_false (by simp)]
   refine zG3 ?_
   have hp2:p < l.length:=by
    by_cases q:p < l.length
    ·exact q
    ·rw[List.drop_eq_nil_iff.mpr (by omega)]at hd;cases hd
   have hz:l[p]? =some z:=by
    have:=List.drop_eq_getElem_cons hp2
    rw[hd]at this
    rw[List.getElem?_eq_getElem hp2,(List.cons.inj this).1]
   have hrest:l.drop (p+1)=rest:=by
    have:=List.drop_eq_getElem_cons hp2
    rw[hd]at this
    exact(List.cons.inj this).2.symm
   refine (zq rfl (zf hr1 R.cl R.n1 (zJa _ _) (zq rfl (zf hr1 R.cl R.n2 (zJz _ _) ⟨la,_,_,(zq rfl ⟨rfl,hs,zAw (v:=V.int z) (by rw[List.getElem?_map,hz];rfl),?_⟩)⟩))))
   refine⟨_,rfl,r,C,dx,_,_,rfl,hr1,R.cl,R.n2,zJz _ _,_,_,rfl,rfl,dx,_,hr1,?_,?_⟩
   ·exact Nat.lt_of_le_of_lt (zAt _ _ _) (by show 2 < 1000;decide)
   ·have e:zA9 "place" (V.int ((p:Int) +1)) (rF (.ref la) (.int (p:Int)))=rF (.ref la) (.int ((p+1:Nat):Int)):=zWd _ _ _
    have kp:Keep r H (upd H r (.ins C dx (zA9 "place" (V.int ((p:Int) +1)) (rF (.ref la) (.int (p:Int)))))):=Keep.upd hR.there
    refine (zq rfl (k _ _ (p+1) kp ⟨⟨dx,?_⟩,kp.sqL hs hr1,by omega,hl⟩ hrest rfl))
    rw[zAb,e]
end
noncomputable def zE7{α:Type}(K:PySem.W.Frag)(C CN:Addr)(rd:VametBase.Reader α)(Res:α->Hp->V->Prop)(r la:Addr)(l:List Int)(p:Nat)(H:Hp)(Q:VK)(E:XK):Prop:=match rd (l.drop p)with
 | some (x,rest)=>∀H' v q,Keep r H H'->ReaderAt K C H' r la l q->l.drop q=rest->Res x (mix A0 H H') v->Q v H'
 | none=>∀H',Keep r H H'->E (.ref CN) none H'
noncomputable def zH5{α:Type}(enc:α->WData):α->Hp->V->Prop:=fun x A v=>Dm A v (enc x)
noncomputable def zGh(a b:Int):VametBase.Reader Int:=fun x=>match x with
 | []=>none
 | z::r=>if a<=z/\z<=b then some (z,r)else none
section
variable {P:Program} {w:World} {K:PySem.W.Frag} {mg:Str->Option Value} {base:Heap} {C fI fD fN fW fR CN:Addr}
theorem sc783:zAg ["self","least","greatest","number"] ["self","least","greatest"] (zAc (s78 3)):= fsc
noncomputable def spW(K:PySem.W.Frag)(C CN:Addr):Sp:=fun vs H Q E=>∃(r la:Addr) (l:List Int) (p:Nat) (a b:Int),vs= [.ref r,.int a,.int b]/\ReaderAt K C H r la l p/\zE7 K C CN (zGh a b) zWe r la l p H Q E
theorem zY6(F:∃fd,Fun K "take_within" "Reader.take_within" (s78 3) fW fd)(R:zBw K mg C fI fD fN fW fR)(N:zCr K mg "NotAsTold" CN)(Cn:L2.Callee P w K mg base 2 fN ["self"] (zKk K C CN zSc zWe)):L2.Callee P w K mg base 3 fW ["self","least","greatest"] (spW K C CN):=by
 refine Fun.calleeE F sc783 (fun vs H Q E h=>?_) (fun _ _ _ _ _ _=>b3 fun _ _ _=>rfl) (fun cdv A outer s H vs Q E hr hw h=>?_)
 ·obtain⟨r,la,l,p,a,b,rfl,_⟩:=h
  rfl
 ·obtain⟨r,la,l,p,a,b,rfl,hR,k⟩:=h
  obtain⟨⟨dx,hr1⟩,hs,hp,hl⟩:=id hR
  refine⟨_,zAe (zAq (i:=3) sc783.nd rfl (Or.inl rfl) (zCq (E:=E) (pv 0) R.cl R.mN Cn hr hw))
   (zAe (zCk (zJn (zA6 zMg (pv 3) (pv 1) (zA0 _)) (zHp (zA6 zF9 (pv 3) (pv 2) (zA0 _)))).pt (zAf (zDg hw rfl (by rfl) N.gl PySem.F.excBase_Exception N.ex)) zA5)
   (zAf (zAi (pv 3)))),?_⟩
  refine (zq rfl ⟨r,dx,(zq rfl ⟨hr1,zFi _ _ (by decide +kernel) (by decide +kernel),r,la,l,p,rfl,hR,?_⟩)⟩)
  unfold zE7 at k
  cases hd:l.drop p with
  | nil=>
   rw[hd]at k
   exact k
  | cons z rest=>
   rw[hd]at k
   intro H' v q kp hR' hq hv
   subst hv
   rw[show zGh a b (z::rest)=if a<=z/\z<=b then some (z,rest)else none from rfl]at k
   refine (zq rfl (zq rfl ⟨_,(zq rfl ⟨rfl,(zq rfl (zD2 (fun e=>?_) fun e=>(zq rfl (zq rfl ⟨_,(zq rfl ⟨rfl,(zq rfl ?_)⟩)⟩))))⟩)⟩))
   ·have e:=of_decide_eq_true e
    rw[if_neg (by omega)]at k
    exact zE6 (k H' kp)
   have e:¬z < a:=fun q=>e (decide_eq_true q)
   refine zD2 (fun e2=>?_) fun e2=>?_
   ·have e2:=of_decide_eq_true e2
    rw[if_neg (by omega)]at k
    exact k H' kp
   ·have e2:¬b < z:=fun q=>e2 (decide_eq_true q)
    rw[if_pos (by omega)]at k
    exact (zq rfl (k H' _ q kp hR' hq rfl))
theorem sc784:zAg ["self","count","place"] ["self"] (zAc (s78 4)):= fsc
noncomputable def zWf(K:PySem.W.Frag)(C:Addr):Sp:=fun vs H Q _=>∃(r la:Addr) (l:List Int) (p:Nat) (x rest:List Int),vs= [.ref r]/\ReaderAt K C H r la l p/\PyFlat.row (l.drop p)=some (x,rest)/\∀H' v q,Keep r H H'->ReaderAt K C H' r la l q->l.drop q=rest->Dm (mix A0 H H') v (zCl x)->Q v H'
theorem zY7(F:∃fd,Fun K "take_row" "Reader.take_row" (s78 4) fR fd)(Bl:Blt mg)(R:zBw K mg C fI fD fN fW fR)(Cn:L2.Callee P w K mg base 2 fN ["self"] (zKk K C CN zSc zWe)):L2.Callee P w K mg base 3 fR ["self"] (zWf K C):=by
 refine Fun.callee0 F sc784 (fun vs H Q E h=>?_) (fun _ _ _ _ _ _=>b1 fun _=>rfl) (fun cdv A outer s H vs Q E hr h=>?_)
 ·obtain⟨r,la,l,p,_,_,rfl,_⟩:=h
  rfl
 ·obtain⟨r,la,l,p,x,rest,rfl,hR,hrow,k⟩:=h
  obtain⟨⟨dx,hr1⟩,hs,hp,hl⟩:=id hR
  refine⟨_,zAe (zAq (i:=1) sc784.nd rfl (Or.inl rfl) (zCq (E:=E0) (pv 0) R.cl R.mN Cn hr zAm))
   (zAf (zAi (zEh (own:=[("place",2)]) rfl sc784.nd (zC1 rfl Bl.range (zAa (pv 1) zAd)) (show zCf ["self","count","place"] (zAc (s78 4)) _ [("place",2)]from bok)
    (fun s H C cl fp=>zAv (i:=2) sc784.nd rfl (Or.inl rfl)) (fun s H C cl fp=>zB2) (fun s H C' cl fp=>zCq (C:=C) (E:=E0) (pv 0) R.cl R.mN Cn hr zAm)))),?_⟩
  refine (zq rfl ⟨r,dx,(zq rfl ⟨hr1,zFi _ _ (by decide +kernel) (by decide +kernel),r,la,l,p,rfl,hR,?_⟩)⟩)
  cases hd:l.drop p with
  | nil=>rw[hd]at hrow;cases hrow
  | cons z rest0=>
   rw[hd]at hrow
   have hrow:(if 0<=z/\z.toNat<=rest0.length then some (rest0.take z.toNat,rest0.drop z.toNat)else none:Option (List Int×List Int))=some (x,rest):=hrow
   have hz:0<=z/\z.toNat<=rest0.length:=by
    by_cases q:0<=z/\z.toNat<=rest0.length
    ·exact q
    ·rw[if_neg q]at hrow;cases hrow
   rw[if_pos hz]at hrow
   have hx:rest0.take z.toNat=x:=congrArg Prod.fst (Option.some.inj hrow)
   have hrest:rest0.drop z.toNat=rest:=congrArg Prod.snd (Option.some.inj hrow)
   intro H1 v q1 kp1 hR1 hq1 hv
   subst hv
   have hr0:rest0.length<=10000:=by
    have:=congrArg List.length hq1
    rw[List.length_drop]at this
    omega
   refine (zq rfl ⟨z,rfl,(by omega),(by omega),fun D hD=>?_⟩)
   have hDr:D≠r:=fun z=>by rw[z]at hD;have:=hR1.there;rw[hD]at this;cases this
   refine zFx (lo:=0) (n:=z.toNat) (fun j H'=>Keep r H1 H'/\(∃q,ReaderAt K C H' r la l q/\l.drop q=rest0.drop j)/\H' D=some (.lst ((rest0.take j).map V.int))) ⟨Keep.of (Same.upd hD),⟨q1,hR1.same (Same.upd hD),hq1⟩,zAb⟩ (fun j H' hj h=>?_) (fun H' h=>?_)
   ·obtain⟨kp,⟨q,hRq,hdq⟩,hq⟩:=h
    obtain⟨dx',hr'⟩:=id hRq.obj
    have hj2:j < rest0.length:=by omega
    have hcons:=List.drop_eq_getElem_cons hj2
    refine⟨rfl,?_⟩
    simp only [zNb,if_true]
    refine (zq rfl ⟨r,dx',(zq rfl ⟨hr',zFi _ _ (by decide +kernel) (by decide +kernel),r,la,l,q,rfl,hRq,?_⟩)⟩)
    rw[hdq,hcons]
    intro H2 v2 q2 kp2 hR2 hq2 hv2
    subst hv2
    refine⟨_,kp2.1 _ _ hq hDr,?_,(kp.trans kp2).updN hD hDr,⟨q2,hR2.upd hR1.lst hD hDr,hq2⟩,?_⟩
    ·rw[List.length_map,List.length_take]
     exact zCg (by omega)
    ·rw[zAb,zA2 (List.getElem?_eq_getElem hj2),List.map_append]
     rfl
   ·obtain⟨kp,⟨q,hRq,hdq⟩,hq⟩:=h
    have kk:=kp1.trans kp
    refine k H' _ q kk hRq (hdq.trans hrest) (Dm.row (zAs (kp1.free hD) ?_))
    rw[hq,hx]
theorem zLq{α:Type}(m:Nat)(rd:VametBase.Reader α)(x:List Int):VametBase.readListed 0 m rd x=match zGh 0 m x with
  | some (n,rest)=>VametBase.readTimes rd n.toNat rest
  | none=>none:=by
 unfold VametBase.readListed VametBase.readNat zGh VametBase.int
 cases x with
 | nil=>rfl
 | cons z r=>
  show(if ((0:Nat):Int)<=z/\z<=(m:Int)then some (z.toNat,r)else none).bind _=match (if (0:Int)<=z/\z<=(m:Int)then some (z,r)else none:Option (Int×List Int))with
   | some (n,rest)=>VametBase.readTimes rd n.toNat rest
   | none=>none
  by_cases h:(0:Int)<=z/\z<=(m:Int)
  ·rw[if_pos h];exact(congrArg (fun u=>Option.bind u _) (if_pos h)).trans rfl
  ·rw[if_neg h];exact(congrArg (fun u=>Option.bind u _) (if_neg h)).trans rfl
theorem zJb{α:Type}(rd:VametBase.Reader α)(n:Nat)(x:List Int):VametBase.readTimes rd (n+1) x=match rd x with
  | some (y,rest)=>(VametBase.readTimes rd n rest).map fun v=>(y::v.1,v.2)
  | none=>none:=by
 show(rd x).bind _= _
 cases rd x with
 | none=>rfl
 | some u=>rfl
noncomputable abbrev s79:Stmt:=top 93
theorem sc79:zAg ["reader","most","read_one","count","place"] ["reader","most","read_one"] (zAc s79):= fsc
noncomputable def zOq{α:Type}(K:PySem.W.Frag)(C CN:Addr)(rd:VametBase.Reader α)(enc:α->WData)(f1:Addr)(m:Nat):Sp:=fun vs H Q E=>∃(r la:Addr) (l:List Int) (p:Nat),vs= [.ref r,.int (m:Int),.ref f1]/\ReaderAt K C H r la l p/\
 zE7 K C CN (VametBase.readListed 0 m rd) (zH5 fun xs=> .list (xs.map enc)) r la l p H Q E
theorem zWg{f f1:Addr}{α:Type}{rd:VametBase.Reader α}{enc:α->WData}{m k1:Nat}(hm:m<=1000)(hk:3<=k1)(F:DefAt K mg "read_several" s79 f)(Bl:Blt mg)(R:zBw K mg C fI fD fN fW fR)(N:zCr K mg "NotAsTold" CN)(Cw:L2.Callee P w K mg base 3 fW ["self","least","greatest"] (spW K C CN))
  (C1:L2.Callee P w K mg base k1 f1 ["reader"] (zKk K C CN rd (zH5 enc))):L2.Callee P w K mg base (k1+1) f ["reader","most","read_one"] (zOq K C CN rd enc f1 m):=by
 refine F.calleeE sc79 (fun vs H Q E h=>?_) (fun _ _ _ _ _ _=>b3 fun _ _ _=>rfl) (fun cdv A outer s H vs Q E hr hw h=>?_)
 ·obtain⟨r,la,l,p,rfl,_⟩:=h
  rfl
 ·obtain⟨r,la,l,p,rfl,hR,k⟩:=h
  obtain⟨⟨dx,hr1⟩,hs,hp,hl⟩:=id hR
  refine⟨_,zAe (zAq (i:=3) sc79.nd rfl (Or.inl rfl) (zBq (E:=E) (pv 0) R.cl R.mW Cw (hr.mono hk) hw (zAa zAp (zAa (pv 1) zAd))))
   (zAf (zAi (zV8 (E:=E) (own:=[("place",4)]) (te:=zNj P w K mg base k1 E 2 (zEb (zFq 0) zMk)) hw rfl rfl rfl sc79.nd (zC1 rfl Bl.range (zAa (pv 3) zAd)) (show zCf ["reader","most","read_one","count","place"] (zAc s79) _ [("place",4)]from bok)
    (fun s H C cl fp=>zAv (i:=4) sc79.nd rfl (Or.inl rfl)) (fun s H C cl fp=>zB2)
    (fun s H C' cl fp pn xe hw'=>zEs (k:=k1) (i:=2) (E:=E) rfl (by first | exact Or.inl rfl | exact Or.inr (Or.inl rfl) | exact Or.inr (Or.inr rfl)) hr hw' (zAa (pv 0) zAd))))),?_⟩
  refine (zq rfl ⟨r,dx,(zq rfl ⟨hr1,zFi _ _ (by decide +kernel) (by decide +kernel),(zq rfl ⟨r,la,l,p,0,(m:Int),rfl,hR,?_⟩)⟩)⟩)
  unfold zE7 at k ⊢
  rw[zLq]at k
  cases hn:zGh 0 (m:Int) (l.drop p)with
  | none=>
   rw[hn]at k
   exact k
  | some u=>
   obtain⟨n,rest0⟩:=u
   rw[hn]at k
   dsimp only at k
   have hnm:0<=n/\n<=(m:Int):=by
    unfold zGh at hn
    split at hn
    ·cases hn
    ·split at hn
     ·rename_i hc;cases hn;exact hc
     ·cases hn
   intro H1 v q1 kp1 hR1 hq1 hv
   subst hv
   refine (zq rfl ⟨n,rfl,(by omega),(by omega),fun D hD=>?_⟩)
   have hDr:D≠r:=fun z=>by rw[z]at hD;have:=hR1.there;rw[hD]at this;cases this
   have hH1r:=hR1.there
   refine zFx (lo:=0) (n:=n.toNat) (fun j H'=>Keep r H1 H'/\∃(q:Nat) (xs:List α) (acc:List V),ReaderAt K C H' r la l q/\xs.length=j/\VametBase.readTimes rd n.toNat rest0=(VametBase.readTimes rd (n.toNat - j) (l.drop q)).map (fun v=>(xs++v.1,v.2))/\H' D=some (.lst acc)/\DmAll (wo (mix A0 H1 H') D) acc (xs.map enc))
    ⟨Keep.of (Same.upd hD),q1,[],[],hR1.same (Same.upd hD),rfl,?_,zAb,.nil⟩ (fun j H' hj h=>?_) (fun H' h=>?_)
   ·rw[hq1,Nat.sub_zero]
    cases VametBase.readTimes rd n.toNat rest0 <;> rfl
   ·obtain⟨kp,q,xs,acc,hRq,hxl,ht,hq,dq⟩:=h
    refine⟨rfl,?_⟩
    simp only [zNb,if_true]
    refine ⟨f1,_,(zq rfl ⟨C1,(zq rfl ⟨r,la,l,q,rfl,hRq,?_⟩)⟩)⟩
    rw[show n.toNat - j=(n.toNat - (j+1)) +1 by omega,zJb]at ht
    cases hrd:rd (l.drop q)with
    | none=>
     rw[hrd]at ht
     dsimp only at ht
     rw[Option.map_none]at ht
     rw[ht]at k
     exact fun H2 kp2=>k H2 ((kp1.trans kp).trans kp2)
    | some u=>
     obtain⟨y,rest1⟩:=u
     rw[hrd]at ht
     dsimp only at ht
     intro H2 v2 q2 kp2 hR2 hq2 dv2
     have hq2D:=kp2.1 _ _ hq hDr
     refine⟨acc,hq2D,?_,(kp.trans kp2).updN hD hDr,q2,xs++ [y],acc++ [v2],hR2.upd hR1.lst hD hDr,?_,?_,zAb,?_⟩
     ·rw[dq.length,List.length_map]
      exact zCg (by omega)
     ·rw[List.length_append,hxl];rfl
     ·rw[ht,hq2]
      cases VametBase.readTimes rd (n.toNat - (j+1)) rest1 with
      | none=>rfl
      | some v=>show some (xs++y::v.1,v.2)=some (xs++ [y] ++v.1,v.2);rw[List.append_assoc];rfl
     ·rw[zCv,List.map_append]
      have d1:DmAll (wo (mix A0 H1 H2) D) acc (xs.map enc):=dq.same (Same.wo (kp2.mix hH1r))
      exact d1.snoc (Dm.same (kp.mixW (by rw[hq];rfl)) dv2)
   ·obtain⟨kp,q,xs,acc,hRq,hxl,ht,hq,dq⟩:=h
    rw[Nat.sub_self]at ht
    have ht:VametBase.readTimes rd n.toNat rest0=some (xs++ [],l.drop q):=ht
    rw[List.append_nil]at ht
    rw[ht]at k
    refine k H' _ q (kp1.trans kp) hRq rfl (.lst (zAs (kp1.free hD) hq) ?_)
    exact(dq.same wo_same).same kp1.mixN
end
noncomputable def zGw:Nat->Option (Int×Int)
 | 0=>some (-99,99) | 1=>some (-99,99) | 2=>some (1,9) | 6=>some (0,9) | 7=>some (0,9) | 8=>some (0,9) | 9=>some (-99,99) | _=>none
noncomputable def zGx(n:Nat)(v:Int):zDp:=match n with
 | 0=> .add v | 1=> .times v | 2=> .rest v.toNat | 3=> .abs | 4=> .sort | 5=> .reverse | 6=> .rotate v.toNat | 7=> .take v.toNat | 8=> .drop v.toNat | 9=> .above v
 | 10=> .once | 11=> .sum | 12=> .greatest | 13=> .least | 14=> .count | 15=> .steps | 16=> .sums | _=> .twice
theorem zJ0(r:List Int):VametBase.readInt VametBase.TOLD r=zGh (-99) 99 r:=by
 unfold VametBase.readInt VametBase.TOLD zGh
 cases r with
 | nil=>rfl
 | cons z r=>rfl
theorem zF1(a b:Nat)(r:List Int):VametBase.readNat a b r=(zGh a b r).map fun u=>(u.1.toNat,u.2):=by
 unfold VametBase.readNat zGh VametBase.int
 cases r with
 | nil=>rfl
 | cons z r=>
  show(if (a:Int)<=z/\z<=(b:Int)then some (z.toNat,r)else none)=((if (a:Int)<=z/\z<=(b:Int)then some (z,r)else none).map _:Option (Nat×List Int))
  by_cases h:(a:Int)<=z/\z<=(b:Int)
  ·rw[if_pos h,if_pos h];rfl
  ·rw[if_neg h,if_neg h];rfl
theorem zCj{a b:Int}{x:List Int}{v:Int}{r:List Int}(h:zGh a b x=some (v,r)):a<=v/\v<=b:=by
 unfold zGh at h
 split at h
 ·cases h
 ·split at h
  ·rename_i hc;cases h;exact hc
  ·cases h
theorem zLr(x:List Int):VametBase.readStep x=match zGh 0 17 x with
  | none=>none
  | some (n,rest)=>match zGw n.toNat with
   | none=>some (zGx n.toNat 0,rest)
   | some (a,b)=>(zGh a b rest).map fun(u:Int×List Int)=>(zGx n.toNat u.1,u.2):=by
 cases x with
 | nil=>rfl
 | cons z r=>
  show _=match (if (0:Int)<=z/\z<=17 then some (z,r)else none:Option (Int×List Int))with
   | none=>none
   | some (n,rest)=>match zGw n.toNat with
    | none=>some (zGx n.toNat 0,rest)
    | some (a,b)=>(zGh a b rest).map fun(u:Int×List Int)=>(zGx n.toNat u.1,u.2)
  rcases z with(_ | _ | _ | _ | _ | _ | _ | _ | _ | _ | _ | _ | _ | _ | _ | _ | _ | _ | n) | n
  ·show(VametBase.readInt VametBase.TOLD r).map _= _;rw[zJ0];rfl
  ·show(VametBase.readInt VametBase.TOLD r).map _= _;rw[zJ0];rfl
  ·show(VametBase.readNat 1 9 r).map _= _;rw[zF1,Option.map_map];rfl
  ·rfl
  ·rfl
  ·rfl
  ·show(VametBase.readNat 0 9 r).map _= _;rw[zF1,Option.map_map];rfl
  ·show(VametBase.readNat 0 9 r).map _= _;rw[zF1,Option.map_map];rfl
  ·show(VametBase.readNat 0 9 r).map _= _;rw[zF1,Option.map_map];rfl
  ·show(VametBase.readInt VametBase.TOLD r).map _= _;rw[zJ0];rfl
  all_goals first | rfl | (rw[if_neg (by omega)];rfl)
theorem zHc{n:Nat}{v:Int}(hn:n<=17)(hv:match zGw n with | none=>v=0 | some (a,b)=>a<=v/\v<=b):zEl (zGx n v)= .tuple [.int (n:Int),.int v]/\zI6 (zGx n v):=by
 have tn:∀u:Int,0<=u->((u.toNat:Nat):Int)=u:=fun u hu=>Int.toNat_of_nonneg hu
 rcases n with _ | _ | _ | _ | _ | _ | _ | _ | _ | _ | _ | _ | _ | _ | _ | _ | _ | _ | n
 ·exact⟨rfl,hv⟩
 ·exact⟨rfl,hv⟩
 ·have hv:1<=v/\v<=9:=hv
  exact⟨by show WData.tuple [_,.int ((v.toNat:Nat):Int)] = _;rw[tn v (by omega)];rfl,by show 1<=v.toNat/\v.toNat<=9;omega⟩
 ·have hv:v=0:=hv;subst hv;exact⟨rfl,trivial⟩
 ·have hv:v=0:=hv;subst hv;exact⟨rfl,trivial⟩
 ·have hv:v=0:=hv;subst hv;exact⟨rfl,trivial⟩
 ·have hv:0<=v/\v<=9:=hv
  exact⟨by show WData.tuple [_,.int ((v.toNat:Nat):Int)] = _;rw[tn v (by omega)];rfl,by show v.toNat<=9;omega⟩
 ·have hv:0<=v/\v<=9:=hv
  exact⟨by show WData.tuple [_,.int ((v.toNat:Nat):Int)] = _;rw[tn v (by omega)];rfl,by show v.toNat<=9;omega⟩
 ·have hv:0<=v/\v<=9:=hv
  exact⟨by show WData.tuple [_,.int ((v.toNat:Nat):Int)] = _;rw[tn v (by omega)];rfl,by show v.toNat<=9;omega⟩
 ·exact⟨rfl,hv⟩
 all_goals first | (have hv:v=0:=hv;subst hv;exact⟨rfl,trivial⟩) | exact absurd hn (by omega)
section
variable {P:Program} {w:World} {K:PySem.W.Frag} {mg:Str->Option Value} {base:Heap} {C fI fD fN fW fR CN:Addr}
structure zQj(K:PySem.W.Frag)(mg:Str->Option Value)(aV:Addr)(vals:List V):Prop where
 gl:mg "STEP_VALUES" =some (.ref aV)
 tup:∀H:Hp,SqT K H aV vals
 len:vals.length=18
 ok:∀(i:Nat) v,vals[i]? =some v->match zGw i with
  | none=>v= .non
  | some (a,b)=>∃t,v= .ref t/\∀H:Hp,SqT K H t [.int a,.int b]
noncomputable abbrev s80:Stmt:=top 94
theorem sc80:zAg ["reader","number","limits"] ["reader"] (zAc s80):= fsc
theorem yD9{f aS aV:Addr}{fs:List Addr}{vals:List V}(F:DefAt K mg "read_step" s80 f)(Bl:Blt mg)(R:zBw K mg C fI fD fN fW fR)(Cw:L2.Callee P w K mg base 3 fW ["self","least","greatest"] (spW K C CN))
  (mS:mg "STEPS" =some (.ref aS)) (tS:∀H:Hp,SqT K H aS (fs.map V.ref)) (lS:fs.length=18) (Vs:zQj K mg aV vals):L2.Callee P w K mg base 4 f ["reader"] (zKk K C CN VametBase.readStep (zH5 zEl)):=by
 refine F.calleeE sc80 (fun vs H Q E h=>?_) (fun _ _ _ _ _ _=>b1 fun _=>rfl) (fun cdv A outer s H vs Q E hr hw h=>?_)
 ·obtain⟨r,la,l,p,rfl,_⟩:=h
  rfl
 ·obtain⟨r,la,l,p,rfl,hR,k⟩:=h
  obtain⟨⟨dx,hr1⟩,hs,hp,hl⟩:=id hR
  rw[zLr]at k
  refine⟨_,zAe (zAq (i:=1) sc80.nd rfl (Or.inl rfl) (zBq (E:=E) (pv 0) R.cl R.mW Cw hr hw (zAa zAp (zAa (zC3 zKx (zAn zAk (by rfl) Bl.len PySem.boot_len (zAa (zAr (v:= .ref aS) (by rfl) mS rfl) zAd)) zAp) zAd))))
   (zAe (zAq (i:=2) sc80.nd rfl (Or.inl rfl) (zBi zBx (zAr (v:= .ref aV) (by rfl) Vs.gl rfl) (pv 1) (fun _ _=>rfl)))
   (zAe (zCk (zA6 zIw (pv 2) zE2 (zA0 _)) (zAf (zAi (zKz (zAa (pv 1) (zAa zAp zAd))))) zA5)
   (zAf (zAi (zKz (zAa (pv 1) (zAa (zBq (E:=E) (pv 0) R.cl R.mW Cw hr hw (zAa (zBi zBx (pv 2) zAp (fun _ _=>rfl)) (zAa (zBi zBx (pv 2) zAp (fun _ _=>rfl)) zAd))) zAd))))))),?_⟩
  refine (zq rfl ⟨r,dx,(zq rfl ⟨hr1,zFi _ _ (by decide +kernel) (by decide +kernel),aS,(zq rfl ⟨.inr (tS _),_,(zq rfl ⟨rfl,r,la,l,p,0,17,(by rw[List.length_map,lS];rfl),hR,?_⟩)⟩)⟩)⟩)
  unfold zE7
  cases hn:zGh 0 17 (l.drop p)with
  | none=>
   rw[hn]at k
   exact k
  | some u=>
   obtain⟨n,rest⟩:=u
   rw[hn]at k
   dsimp only at k
   have hnr:=zCj hn
   intro H1 v q1 kp1 hR1 hq1 hv
   subst hv
   have hni:((n.toNat:Nat):Int)=n:=Int.toNat_of_nonneg hnr.1
   obtain⟨lv,hlv⟩:∃lv,vals[n.toNat]? =some lv:=⟨_,List.getElem?_eq_getElem (by rw[Vs.len];omega)⟩
   have hok:=Vs.ok _ _ hlv
   refine (zq rfl ⟨aV,_,n,lv,rfl,rfl,Vs.tup _,(by rw[<-hni];exact zAw hlv),?_⟩)
   cases hlim:zGw n.toNat with
   | none=>
    rw[hlim]at hok k
    dsimp only at hok k
    subst hok
    refine (zq rfl ⟨rfl,(zq rfl (zE6 (zq rfl ⟨(by show 2<=sizeLine;decide),fun t ht=>?_⟩)))⟩)
    have sw:=zHc (n:=n.toNat) (v:=0) (by omega) (by rw[hlim])
    refine k _ _ q1 (kp1.trans (Keep.of (Same.upd ht))) (hR1.same (Same.upd ht)) hq1 ?_
    show Dm _ _ (zEl _)
    rw[sw.1,hni]
    exact .tup (zAs (kp1.free ht) zAb) (.cons (.int _) (.cons (.int _) .nil))
   | some ab=>
    obtain⟨a,b⟩:=ab
    rw[hlim]at hok k
    dsimp only at hok k
    obtain⟨t,rfl,ht⟩:=hok
    obtain⟨⟨dx1,hr2⟩,_⟩:=id hR1
    refine (zq rfl ⟨rfl,(zq rfl (zG3 ?_))⟩)
    refine (zq rfl (zq rfl ⟨r,dx1,(zq rfl ⟨hr2,zFi _ _ (by decide +kernel) (by decide +kernel),(zq rfl ⟨t,_,_,(zq rfl ⟨rfl,ht _,zAw (j:=0) rfl,(zq rfl ⟨t,_,_,(zq rfl ⟨rfl,ht _,zAw (j:=1) rfl,r,la,l,q1,a,b,rfl,hR1,?_⟩)⟩)⟩)⟩)⟩)⟩))
    unfold zE7
    rw[hq1]
    cases hn2:zGh a b rest with
    | none=>
     rw[hn2]at k
     exact fun H2 kp2=>k H2 (kp1.trans kp2)
    | some u=>
     obtain⟨v,rest2⟩:=u
     rw[hn2]at k
     dsimp only [Option.map_some]at k
     have hvr:=zCj hn2
     intro H2 v2 q2 kp2 hR2 hq2 hv2
     subst hv2
     refine⟨(by show 2<=sizeLine;decide),fun t2 ht2=>?_⟩
     have sw:=zHc (n:=n.toNat) (v:=v) (by omega) (by rw[hlim];exact hvr)
     refine k _ _ q2 ((kp1.trans kp2).trans (Keep.of (Same.upd ht2))) (hR2.same (Same.upd ht2)) hq2 ?_
     show Dm _ _ (zEl _)
     rw[sw.1,hni]
     exact .tup (zAs ((kp1.trans kp2).free ht2) zAb) (.cons (.int _) (.cons (.int _) .nil))
end
noncomputable def zLs(n:Nat)(v:Int):zDd:=match n with
 | 0=> .any | 1=> .some | 2=> .rising | 3=> .plus | 4=> .unlike | _=> .atLeast v.toNat
theorem zQk(x:List Int):VametBase.readCond x=match zGh 0 5 x with
  | none=>none
  | some (n,rest)=>if n=5 then(zGh 0 9 rest).map fun(u:Int×List Int)=>(zLs 5 u.1,u.2)else some (zLs n.toNat 0,rest):=by
 cases x with
 | nil=>rfl
 | cons z r=>
  show _=match (if (0:Int)<=z/\z<=5 then some (z,r)else none:Option (Int×List Int))with
   | none=>none
   | some (n,rest)=>if n=5 then(zGh 0 9 rest).map fun(u:Int×List Int)=>(zLs 5 u.1,u.2)else some (zLs n.toNat 0,rest)
  by_cases h:(0:Int)<=z/\z<=5
  ·rw[if_pos h]
   have hz:z=0\/z=1\/z=2\/z=3\/z=4\/z=5:=by omega
   rcases hz with rfl | rfl | rfl | rfl | rfl | rfl
   ·rfl
   ·rfl
   ·rfl
   ·rfl
   ·rfl
   ·show(VametBase.readNat 0 9 r).map _= _;rw[zF1,Option.map_map];rfl
  ·rw[if_neg h]
   unfold VametBase.readCond
   split <;> first | rfl | (rename_i q;cases q;omega) | (rename_i q;exact absurd (List.cons.inj q).1 (by omega))
noncomputable def zUl(n:Nat):zO6:=match n with
 | 0=> .equal | 1=> .bag | 2=> .numbers | 3=> .most | 4=> .least | 5=> .begins | _=> .long
noncomputable def zO7(r:zO6):WData:= .int (zBu r:Int)
theorem zSd(x:List Int):VametBase.readRel x=(zGh 0 6 x).map fun(u:Int×List Int)=>(zUl u.1.toNat,u.2):=by
 cases x with
 | nil=>rfl
 | cons z r=>
  show _=(if (0:Int)<=z/\z<=6 then some (z,r)else none:Option (Int×List Int)).map fun(u:Int×List Int)=>(zUl u.1.toNat,u.2)
  by_cases h:(0:Int)<=z/\z<=6
  ·rw[if_pos h]
   have hz:z=0\/z=1\/z=2\/z=3\/z=4\/z=5\/z=6:=by omega
   rcases hz with rfl | rfl | rfl | rfl | rfl | rfl | rfl <;> rfl
  ·rw[if_neg h]
   unfold VametBase.readRel
   split <;> first | rfl | (rename_i q;cases q;omega) | (rename_i q;exact absurd (List.cons.inj q).1 (by omega))
theorem zUm{n:Int}(h:0<=n/\n<=6):zO7 (zUl n.toNat)= .int n:=by
 have hz:n=0\/n=1\/n=2\/n=3\/n=4\/n=5\/n=6:=by omega
 rcases hz with rfl | rfl | rfl | rfl | rfl | rfl | rfl <;> rfl
section
variable {P:Program} {w:World} {K:PySem.W.Frag} {mg:Str->Option Value} {base:Heap} {C fI fD fN fW fR CN:Addr}
noncomputable abbrev s82:Stmt:=top 96
theorem sc82:zAg ["reader","number"] ["reader"] (zAc s82):= fsc
theorem yEa{f aC:Addr}{fs:List Addr}(F:DefAt K mg "read_condition" s82 f)(Bl:Blt mg)(R:zBw K mg C fI fD fN fW fR)(Cw:L2.Callee P w K mg base 3 fW ["self","least","greatest"] (spW K C CN))
  (mS:mg "CONDITIONS" =some (.ref aC)) (tS:∀H:Hp,SqT K H aC (fs.map V.ref)) (lS:fs.length=6) (c1:zDc mg "CONDITION_WITH_COUNT" 5) (c2:zDc mg "GREATEST_COUNT" 9):L2.Callee P w K mg base 4 f ["reader"] (zKk K C CN VametBase.readCond (zH5 zDq)):=by
 obtain⟨t1,c1⟩:=c1
 obtain⟨t2,c2⟩:=c2
 refine F.calleeE sc82 (fun vs H Q E h=>?_) (fun _ _ _ _ _ _=>b1 fun _=>rfl) (fun cdv A outer s H vs Q E hr hw h=>?_)
 ·obtain⟨r,la,l,p,rfl,_⟩:=h
  rfl
 ·obtain⟨r,la,l,p,rfl,hR,k⟩:=h
  obtain⟨⟨dx,hr1⟩,hs,hp,hl⟩:=id hR
  rw[zQk]at k
  refine⟨_,zAe (zAq (i:=1) sc82.nd rfl (Or.inl rfl) (zBq (E:=E) (pv 0) R.cl R.mW Cw hr hw (zAa zAp (zAa (zC3 zKx (zAn zAk (by rfl) Bl.len PySem.boot_len (zAa (zAr (v:= .ref aC) (by rfl) mS rfl) zAd)) zAp) zAd))))
   (zAe (zCk (zA6 zIh (pv 1) (zAr (v:= .int 5) (by rfl) c1 ⟨t1,rfl⟩) (zA0 _)) (zAf (zAi (zKz (zAa (pv 1) (zAa (zBq (E:=E) (pv 0) R.cl R.mW Cw hr hw (zAa zAp (zAa (zAr (v:= .int 9) (by rfl) c2 ⟨t2,rfl⟩) zAd))) zAd))))) zA5)
   (zAf (zAi (zKz (zAa (pv 1) (zAa zAp zAd)))))),?_⟩
  refine (zq rfl ⟨r,dx,(zq rfl ⟨hr1,zFi _ _ (by decide +kernel) (by decide +kernel),aC,(zq rfl ⟨.inr (tS _),_,(zq rfl ⟨rfl,r,la,l,p,0,5,(by rw[List.length_map,lS];rfl),hR,?_⟩)⟩)⟩)⟩)
  unfold zE7
  cases hn:zGh 0 5 (l.drop p)with
  | none=>
   rw[hn]at k
   exact k
  | some u=>
   obtain⟨n,rest⟩:=u
   rw[hn]at k
   dsimp only at k
   have hnr:=zCj hn
   intro H1 v q1 kp1 hR1 hq1 hv
   subst hv
   obtain⟨⟨dx1,hr2⟩,_⟩:=id hR1
   refine (zq rfl ⟨rfl,(zq rfl (zD2 (fun e=>?_) fun e=>?_))⟩)
   ·have e:n=5:=V.int.inj (of_decide_eq_true e)
    subst e
    rw[if_pos rfl]at k
    refine (zq rfl (zq rfl ⟨r,dx1,(zq rfl ⟨hr2,zFi _ _ (by decide +kernel) (by decide +kernel),r,la,l,q1,0,9,rfl,hR1,?_⟩)⟩))
    unfold zE7
    rw[hq1]
    cases hn2:zGh 0 9 rest with
    | none=>
     rw[hn2]at k
     exact fun H2 kp2=>k H2 (kp1.trans kp2)
    | some u=>
     obtain⟨v,rest2⟩:=u
     rw[hn2]at k
     dsimp only [Option.map_some]at k
     have hvr:=zCj hn2
     intro H2 v2 q2 kp2 hR2 hq2 hv2
     subst hv2
     refine⟨(by show 2<=sizeLine;decide),fun t2 ht2=>?_⟩
     refine k _ _ q2 ((kp1.trans kp2).trans (Keep.of (Same.upd ht2))) (hR2.same (Same.upd ht2)) hq2 ?_
     show Dm _ _ (.tuple [.int 5,.int ((v.toNat:Nat):Int)])
     rw[Int.toNat_of_nonneg hvr.1]
     exact .tup (zAs ((kp1.trans kp2).free ht2) zAb) (.cons (.int _) (.cons (.int _) .nil))
   ·have e:¬n=5:=fun z=>e (decide_eq_true (by rw[z]))
    rw[if_neg e]at k
    refine (zq rfl ⟨(by show 2<=sizeLine;decide),fun t ht=>?_⟩)
    refine k _ _ q1 (kp1.trans (Keep.of (Same.upd ht))) (hR1.same (Same.upd ht)) hq1 ?_
    have ew:zDq (zLs n.toNat 0)= .tuple [.int n,.int 0]:=by
     have hz:n=0\/n=1\/n=2\/n=3\/n=4:=by omega
     rcases hz with rfl | rfl | rfl | rfl | rfl <;> rfl
    show Dm _ _ (zDq _)
    rw[ew]
    exact .tup (zAs (kp1.free ht) zAb) (.cons (.int _) (.cons (.int _) .nil))
noncomputable abbrev s83:Stmt:=top 97
theorem yEb:zAg ["reader"] ["reader"] (zAc s83):= fsc
theorem yEc{f aW:Addr}{fs:List Addr}(F:DefAt K mg "read_way" s83 f)(Bl:Blt mg)(R:zBw K mg C fI fD fN fW fR)(Cw:L2.Callee P w K mg base 3 fW ["self","least","greatest"] (spW K C CN))
  (mS:mg "WAYS" =some (.ref aW)) (tS:∀H:Hp,SqT K H aW (fs.map V.ref)) (lS:fs.length=7):L2.Callee P w K mg base 4 f ["reader"] (zKk K C CN VametBase.readRel (zH5 zO7)):=by
 refine F.calleeE yEb (fun vs H Q E h=>?_) (fun _ _ _ _ _ _=>b1 fun _=>rfl) (fun cdv A outer s H vs Q E hr hw h=>?_)
 ·obtain⟨r,la,l,p,rfl,_⟩:=h
  rfl
 ·obtain⟨r,la,l,p,rfl,hR,k⟩:=h
  obtain⟨⟨dx,hr1⟩,hs,hp,hl⟩:=id hR
  rw[zSd]at k
  refine⟨_,zAf (zAi (zBq (E:=E) (pv 0) R.cl R.mW Cw hr hw (zAa zAp (zAa (zC3 zKx (zAn zAk (by rfl) Bl.len PySem.boot_len (zAa (zAr (v:= .ref aW) (by rfl) mS rfl) zAd)) zAp) zAd)))),?_⟩
  refine (zq rfl ⟨r,dx,(zq rfl ⟨hr1,zFi _ _ (by decide +kernel) (by decide +kernel),aW,(zq rfl ⟨.inr (tS _),_,(zq rfl ⟨rfl,r,la,l,p,0,6,(by rw[List.length_map,lS];rfl),hR,?_⟩)⟩)⟩)⟩)
  unfold zE7
  cases hn:zGh 0 6 (l.drop p)with
  | none=>
   rw[hn]at k
   exact k
  | some u=>
   obtain⟨n,rest⟩:=u
   rw[hn]at k
   dsimp only [Option.map_some]at k
   have hnr:=zCj hn
   intro H1 v q1 kp1 hR1 hq1 hv
   subst hv
   refine k H1 _ q1 kp1 hR1 hq1 ?_
   show Dm _ _ (zO7 _)
   rw[zUm hnr]
   exact .int n
noncomputable abbrev s81:Stmt:=top 95
theorem yEd:zAg ["reader"] ["reader"] (zAc s81):= fsc
theorem yEe{f fs f1:Addr}(F:DefAt K mg "read_program" s81 f)(Bl:Blt mg)(c1:zDc mg "MOST_STEPS" 8)(ms:mg "read_several" =some (.ref fs))(m1:mg "read_step" =some (.ref f1))
  (Cs:L2.Callee P w K mg base 5 fs ["reader","most","read_one"] (zOq K C CN VametBase.readStep zEl f1 8)):L2.Callee P w K mg base 6 f ["reader"] (zKk K C CN VametBase.readProgram (zH5 zBt)):=by
 obtain⟨t1,c1⟩:=c1
 refine F.calleeE yEd (fun vs H Q E h=>?_) (fun _ _ _ _ _ _=>b1 fun _=>rfl) (fun cdv A outer s H vs Q E hr hw h=>?_)
 ·obtain⟨r,la,l,p,rfl,_⟩:=h
  rfl
 ·obtain⟨r,la,l,p,rfl,hR,k⟩:=h
  refine⟨_,zAf (zAi (zEe zJp (by rfl) Bl.tuple (by decide +kernel) (zAa (zAh (E:=E) Cs hr (by rfl) ms hw (zAa (pv 0) (zAa (zAr (v:= .int 8) (by rfl) c1 ⟨t1,rfl⟩) (zAa (zAr (v:= .ref f1) (by rfl) m1 rfl) zAd)))) zAd))),?_⟩
  refine (zq rfl ⟨r,la,l,p,rfl,hR,?_⟩)
  unfold zE7
  have ep:VametBase.readProgram=VametBase.readListed 0 8 VametBase.readStep:=rfl
  rw[ep]at k
  cases hrd:VametBase.readListed 0 8 VametBase.readStep (l.drop p)with
  | none=>
   rw[hrd]at k
   exact k
  | some u=>
   obtain⟨x,rest⟩:=u
   rw[hrd]at k
   dsimp only at k ⊢
   intro H1 v q1 kp1 hR1 hq1 dv
   obtain⟨a,ys,rfl,ha,hys⟩:=Dm.list_inv (ds:=x.map zEl) dv
   have ha1:H1 a=some (.lst ys):=kp1.mixI zBv rfl _ _ ha
   refine⟨a,ys,rfl,.inl ⟨SqL.of ha1,fun b hb=>?_⟩⟩
   exact k _ _ q1 (kp1.trans (Keep.of (Same.upd hb))) (hR1.same (Same.upd hb)) hq1 (.tup (zAs (kp1.free hb) zAb) (hys.same (zCz (Same.upd hb))))
noncomputable abbrev s84:Stmt:=top 98
theorem yEf:zAg ["reader"] ["reader"] (zAc s84):= fsc
theorem yEg{f fs f1:Addr}(F:DefAt K mg "read_others" s84 f)(c1:zDc mg "MOST_OTHERS" 8)(ms:mg "read_several" =some (.ref fs))(m1:mg "read_program" =some (.ref f1))
  (Cs:L2.Callee P w K mg base 7 fs ["reader","most","read_one"] (zOq K C CN VametBase.readProgram zBt f1 8)):L2.Callee P w K mg base 8 f ["reader"] (zKk K C CN (VametBase.readListed 0 8 VametBase.readProgram) (zH5 fun xs=> .list (xs.map zBt))):=by
 obtain⟨t1,c1⟩:=c1
 refine F.calleeE yEf (fun vs H Q E h=>?_) (fun _ _ _ _ _ _=>b1 fun _=>rfl) (fun cdv A outer s H vs Q E hr hw h=>?_)
 ·obtain⟨r,la,l,p,rfl,_⟩:=h
  rfl
 ·obtain⟨r,la,l,p,rfl,hR,k⟩:=h
  refine⟨_,zAf (zAi (zAh (E:=E) Cs hr (by rfl) ms hw (zAa (pv 0) (zAa (zAr (v:= .int 8) (by rfl) c1 ⟨t1,rfl⟩) (zAa (zAr (v:= .ref f1) (by rfl) m1 rfl) zAd))))),?_⟩
  exact (zq rfl ⟨r,la,l,p,rfl,hR,k⟩)
noncomputable abbrev s85:Stmt:=top 99
theorem yEh:zAg ["reader"] ["reader"] (zAc s85):= fsc
theorem yEi{f fs f1:Addr}(F:DefAt K mg "read_conditions" s85 f)(c1:zDc mg "MOST_CONDITIONS" 3)(ms:mg "read_several" =some (.ref fs))(m1:mg "read_condition" =some (.ref f1))
  (Cs:L2.Callee P w K mg base 5 fs ["reader","most","read_one"] (zOq K C CN VametBase.readCond zDq f1 3)):L2.Callee P w K mg base 6 f ["reader"] (zKk K C CN (VametBase.readListed 0 3 VametBase.readCond) (zH5 fun xs=> .list (xs.map zDq))):=by
 obtain⟨t1,c1⟩:=c1
 refine F.calleeE yEh (fun vs H Q E h=>?_) (fun _ _ _ _ _ _=>b1 fun _=>rfl) (fun cdv A outer s H vs Q E hr hw h=>?_)
 ·obtain⟨r,la,l,p,rfl,_⟩:=h
  rfl
 ·obtain⟨r,la,l,p,rfl,hR,k⟩:=h
  refine⟨_,zAf (zAi (zAh (E:=E) Cs hr (by rfl) ms hw (zAa (pv 0) (zAa (zAr (v:= .int 3) (by rfl) c1 ⟨t1,rfl⟩) (zAa (zAr (v:= .ref f1) (by rfl) m1 rfl) zAd))))),?_⟩
  exact (zq rfl ⟨r,la,l,p,rfl,hR,k⟩)
noncomputable abbrev s86:Stmt:=top 100
theorem yEj:zAg ["reader"] ["reader"] (zAc s86):= fsc
theorem yEk{f fs f1:Addr}(F:DefAt K mg "read_turnings" s86 f)(c1:zDc mg "MOST_TURNINGS" 4)(ms:mg "read_several" =some (.ref fs))(m1:mg "read_program" =some (.ref f1))
  (Cs:L2.Callee P w K mg base 7 fs ["reader","most","read_one"] (zOq K C CN VametBase.readProgram zBt f1 4)):L2.Callee P w K mg base 8 f ["reader"] (zKk K C CN (VametBase.readListed 0 4 VametBase.readProgram) (zH5 fun xs=> .list (xs.map zBt))):=by
 obtain⟨t1,c1⟩:=c1
 refine F.calleeE yEj (fun vs H Q E h=>?_) (fun _ _ _ _ _ _=>b1 fun _=>rfl) (fun cdv A outer s H vs Q E hr hw h=>?_)
 ·obtain⟨r,la,l,p,rfl,_⟩:=h
  rfl
 ·obtain⟨r,la,l,p,rfl,hR,k⟩:=h
  refine⟨_,zAf (zAi (zAh (E:=E) Cs hr (by rfl) ms hw (zAa (pv 0) (zAa (zAr (v:= .int 4) (by rfl) c1 ⟨t1,rfl⟩) (zAa (zAr (v:= .ref f1) (by rfl) m1 rfl) zAd))))),?_⟩
  exact (zq rfl ⟨r,la,l,p,rfl,hR,k⟩)
noncomputable abbrev s87:Stmt:=top 101
theorem yEl:zAg ["reader"] ["reader"] (zAc s87):= fsc
theorem yEm{f fs f1:Addr}(F:DefAt K mg "read_ways" s87 f)(c1:zDc mg "MOST_WAYS" 7)(ms:mg "read_several" =some (.ref fs))(m1:mg "read_way" =some (.ref f1))
  (Cs:L2.Callee P w K mg base 5 fs ["reader","most","read_one"] (zOq K C CN VametBase.readRel zO7 f1 7)):L2.Callee P w K mg base 6 f ["reader"] (zKk K C CN (VametBase.readListed 0 7 VametBase.readRel) (zH5 fun xs=> .list (xs.map zO7))):=by
 obtain⟨t1,c1⟩:=c1
 refine F.calleeE yEl (fun vs H Q E h=>?_) (fun _ _ _ _ _ _=>b1 fun _=>rfl) (fun cdv A outer s H vs Q E hr hw h=>?_)
 ·obtain⟨r,la,l,p,rfl,_⟩:=h
  rfl
 ·obtain⟨r,la,l,p,rfl,hR,k⟩:=h
  refine⟨_,zAf (zAi (zAh (E:=E) Cs hr (by rfl) ms hw (zAa (pv 0) (zAa (zAr (v:= .int 7) (by rfl) c1 ⟨t1,rfl⟩) (zAa (zAr (v:= .ref f1) (by rfl) m1 rfl) zAd))))),?_⟩
  exact (zq rfl ⟨r,la,l,p,rfl,hR,k⟩)
end
noncomputable abbrev zH6:=Vametc.Family
noncomputable def fF(c i o ws:V):List (Str×V):=zA9 "ways" ws (zA9 "output_turnings" o (zA9 "input_turnings" i (zA9 "conditions" c [])))
theorem zX6(c i o ws:V):(fF c i o ws).lookup ("conditions":Str)=some c:=by kernel_rfl
theorem yA2(c i o ws:V):(fF c i o ws).lookup ("input_turnings":Str)=some i:=by kernel_rfl
theorem zX7(c i o ws:V):(fF c i o ws).lookup ("output_turnings":Str)=some o:=by kernel_rfl
theorem zX8(c i o ws:V):(fF c i o ws).lookup ("ways":Str)=some ws:=by kernel_rfl
structure zJc(K:PySem.W.Frag)(mg:Str->Option Value)(C fI:Addr):Prop where
 gl:mg "Family" =some (.ref C)
 cl:Cls K C
 make:Mk K C fI
 n1:NoAttr K C "conditions"
 n2:NoAttr K C "input_turnings"
 n3:NoAttr K C "output_turnings"
 n4:NoAttr K C "ways"
noncomputable def FamAt(C:Addr)(A:Hp)(v:V)(g:zH6):Prop:=∃a dx c i o ws,v= .ref a/\A a=some (.ins C dx (fF c i o ws))/\Dm A c (.list (g.conds.map zDq))/\Dm A i (.list (g.inputs.map zBt))/\Dm A o (.list (g.outputs.map zBt))/\Dm A ws (.list (g.rels.map zO7))
theorem FamAt.same{C:Addr}{A A':Hp}{v:V}{g:zH6}(h:FamAt C A v g)(e:Same A A'):FamAt C A' v g:=by
 obtain⟨a,dx,c,i,o,ws,h0,h1,h2,h3,h4,h5⟩:=h
 exact⟨a,dx,c,i,o,ws,h0,e _ _ h1,h2.same e,h3.same e,h4.same e,h5.same e⟩
section
variable {P:Program} {w:World} {K:PySem.W.Frag} {mg:Str->Option Value} {base:Heap} {C fI fD fN fW fR CN CF fF0:Addr}
noncomputable abbrev s65:Stmt:=zBk (top 42) 0
theorem yEn:zAg ["self","conditions","input_turnings","output_turnings","ways"] ["self","conditions","input_turnings","output_turnings","ways"] (zAc s65):= fsc
noncomputable def zY8(CF:Addr):Sp:=fun vs H Q _=>∃(p dx:Addr) (c i o ws:V),vs= [.ref p,c,i,o,ws]/\H p=some (.ins CF dx [])/\Q .non (upd H p (.ins CF dx (fF c i o ws)))
theorem yEo(F:∃fd,Fun K "__init__" "Family.__init__" s65 fF0 fd)(B:zJc K mg CF fF0):L2.Callee P w K mg base 1 fF0 ["self","conditions","input_turnings","output_turnings","ways"] (zY8 CF):=by
 refine Fun.callee0 F yEn (fun vs H Q E h=>?_) (fun _ _ _ _ _ _=>b5 fun _ _ _ _ _=>rfl) (fun cdv A outer s H vs Q E hr h=>?_)
 ·obtain⟨p,dx,c,i,o,ws,rfl,_⟩:=h
  rfl
 ·obtain⟨p,dx,c,i,o,ws,rfl,hp,k⟩:=h
  refine⟨_,zAe (zBn (pv 0) (pv 1) rfl) (zAe (zBn (pv 0) (pv 2) rfl) (zAe (zBn (pv 0) (pv 3) rfl) (zAf (zBn (pv 0) (pv 4) rfl)))),?_⟩
  refine (zq rfl (zq rfl ⟨p,CF,dx,[],rfl,hp,B.cl,B.n1,(by show 0 < 1000;decide),?_⟩))
  refine (zq rfl (zq rfl ⟨p,CF,dx,(zq rfl ⟨zAb,B.cl,B.n2,(by show 1 < 1000;decide),?_⟩)⟩))
  refine (zq rfl (zq rfl ⟨p,CF,dx,(zq rfl ⟨zAb,B.cl,B.n3,Nat.lt_of_le_of_lt (zAt _ _ _) (by show 2 < 1000;decide),?_⟩)⟩))
  refine (zq rfl (zq rfl ⟨p,CF,dx,(zq rfl ⟨zAb,B.cl,B.n4,Nat.lt_of_le_of_lt (Nat.le_trans (zAt _ _ _) (Nat.succ_le_succ (zAt _ _ _))) (by show 3 < 1000;decide),?_⟩)⟩))
  rw[zBh,zBh,zBh]
  exact k
noncomputable abbrev s89:Stmt:=top 103
theorem sc89:zAg ["numbers","read_thing","reader","thing"] ["numbers","read_thing"] (zAc s89):= fsc
noncomputable def zUn{α:Type}(K:PySem.W.Frag)(CN:Addr)(rd:VametBase.Reader α)(Res:α->Hp->V->Prop)(f1:Addr):Sp:=fun vs H Q E=>∃(la:Addr) (l:List Int),vs= [.ref la,.ref f1]/\SqL K H la (l.map V.int)/\l.length<=10000/\(match VametBase.whole rd l with
 | some x=>∀H' v,Same H H'->Res x (mix A0 H H') v->Q v H'
 | none=>∀H',Same H H'->E (.ref CN) none H')
theorem Keep.new{r:Addr}{H H1 H2:Hp}(e:Same H H1)(h:H r=none)(k:Keep r H1 H2):Same H H2:=fun b o q=>k.1 b o (e b o q) (zAo q h)
theorem zU9{f f1:Addr}{α:Type}{rd:VametBase.Reader α}{Res:α->Hp->V->Prop}{k1:Nat}(hk:2<=k1)(hRes:∀x A A' v,Same A A'->Res x A v->Res x A' v)(F:DefAt K mg "read_whole" s89 f)(R:zBw K mg C fI fD fN fW fR)(N:zCr K mg "NotAsTold" CN)
  (CI:L2.Callee P w K mg base 1 fI ["self","numbers"] (zY1 C)) (CD:L2.Callee P w K mg base 1 fD ["self"] (zNv K C)) (C1:L2.Callee P w K mg base k1 f1 ["reader"] (zKk K C CN rd Res)):L2.Callee P w K mg base (k1+1) f ["numbers","read_thing"] (zUn K CN rd Res f1):=by
 refine F.calleeE sc89 (fun vs H Q E h=>?_) (fun _ _ _ _ _ _=>b2 fun _ _=>rfl) (fun cdv A outer s H vs Q E hr hw h=>?_)
 ·obtain⟨la,l,rfl,_⟩:=h
  rfl
 ·obtain⟨la,l,rfl,hs,hl,k⟩:=h
  refine⟨_,zAe (zAq (i:=2) sc89.nd rfl (Or.inl rfl) (zB0 (E:=E0) R.make CI (hr.mono hk) (by rfl) R.gl zAm (zAa (pv 0) zAd)))
   (zAe (zAq (i:=3) sc89.nd rfl (Or.inl rfl) (zEs (k:=k1) (i:=1) (E:=E) rfl (Or.inl rfl) hr hw (zAa (pv 2) zAd)))
   (zAe (zCk (zE3 (zBb (zCq (E:=E0) (pv 2) R.cl R.mD CD (hr.mono (by omega)) zAm) (fun _=>rfl))) (zAf (zDg hw rfl (by rfl) N.gl PySem.F.excBase_Exception N.ex)) zA5)
   (zAf (zAi (pv 3))))),?_⟩
  refine (zq rfl (fun r dx hr0 hdx hne=>⟨r,dx,(zq rfl ⟨zAb,rfl,?_⟩)⟩))
  rw[zBh]
  have sm:Same H (upd (upd H dx (.own r)) r (.ins C dx (rF (.ref la) (.int 0)))):=zA3 hr0 hdx
  have hR:ReaderAt K C (upd (upd H dx (.own r)) r (.ins C dx (rF (.ref la) (.int 0)))) r la l 0:=⟨⟨dx,zAb⟩,sm.seq hs,Nat.zero_le _,hl⟩
  refine ⟨f1,_,(zq rfl ⟨C1,(zq rfl ⟨r,la,l,0,rfl,hR,?_⟩)⟩)⟩
  rw[List.drop_zero]
  unfold VametBase.whole at k
  cases hrd:rd l with
  | none=>
   rw[hrd]at k
   exact fun H2 kp=>k H2 (Keep.new sm hr0 kp)
  | some u=>
   obtain⟨x,rest⟩:=u
   rw[hrd]at k
   intro H2 v q kp hR2 hq hv
   obtain⟨⟨dx2,hr2⟩,_⟩:=id hR2
   refine (zq rfl ⟨r,dx2,(zq rfl ⟨hr2,zFi _ _ (by decide +kernel) (by decide +kernel),r,la,l,q,rfl,hR2,(zq rfl ?_)⟩)⟩)
   rw[hq]
   cases rest with
   | nil=>
    refine zG3 (zq rfl ?_)
    exact k H2 v (Keep.new sm hr0 kp) (hRes _ _ _ _ (Keep.mixN (r:=r) (Keep.of sm)) hv)
   | cons z rest=>
    refine zE6 ?_
    exact k H2 (Keep.new sm hr0 kp)
noncomputable def rlF(c i ww o:V):List (Str×V):=zA9 "output_turning" o (zA9 "way" ww (zA9 "input_turning" i (zA9 "condition" c [])))
theorem zSe(c i ww o:V):(rlF c i ww o).lookup ("condition":Str)=some c:=by kernel_rfl
theorem zSf(c i ww o:V):(rlF c i ww o).lookup ("input_turning":Str)=some i:=by kernel_rfl
theorem zSg(c i ww o:V):(rlF c i ww o).lookup ("way":Str)=some ww:=by kernel_rfl
theorem zSh(c i ww o:V):(rlF c i ww o).lookup ("output_turning":Str)=some o:=by kernel_rfl
structure zGy(K:PySem.W.Frag)(mg:Str->Option Value)(C fI:Addr):Prop where
 gl:mg "Relation" =some (.ref C)
 cl:Cls K C
 make:Mk K C fI
 n1:NoAttr K C "condition"
 n2:NoAttr K C "input_turning"
 n3:NoAttr K C "way"
 n4:NoAttr K C "output_turning"
noncomputable def RelAt(C:Addr)(A:Hp)(v:V)(r:VametBase.Relation):Prop:=∃a dx c i o,v= .ref a/\A a=some (.ins C dx (rlF c i (.int (zBu r.rel)) o))/\Dm A c (zDq r.cond)/\Dm A i (zBt r.input)/\Dm A o (zBt r.output)
theorem RelAt.same{C:Addr}{A A':Hp}{v:V}{r:VametBase.Relation}(h:RelAt C A v r)(e:Same A A'):RelAt C A' v r:=by
 obtain⟨a,dx,c,i,o,h0,h1,h2,h3,h4⟩:=h
 exact⟨a,dx,c,i,o,h0,e _ _ h1,h2.same e,h3.same e,h4.same e⟩
noncomputable abbrev yA3:Stmt:=zBk (top 20) 0
theorem zY9:zAg ["self","condition","input_turning","way","output_turning"] ["self","condition","input_turning","way","output_turning"] (zAc yA3):= fsc
noncomputable def zUo(CR:Addr):Sp:=fun vs H Q _=>∃(p dx:Addr) (c i ww o:V),vs= [.ref p,c,i,ww,o]/\H p=some (.ins CR dx [])/\Q .non (upd H p (.ins CR dx (rlF c i ww o)))
theorem zZa{CR fR0:Addr}(F:∃fd,Fun K "__init__" "Relation.__init__" yA3 fR0 fd)(B:zGy K mg CR fR0):L2.Callee P w K mg base 1 fR0 ["self","condition","input_turning","way","output_turning"] (zUo CR):=by
 refine Fun.callee0 F zY9 (fun vs H Q E h=>?_) (fun _ _ _ _ _ _=>b5 fun _ _ _ _ _=>rfl) (fun cdv A outer s H vs Q E hr h=>?_)
 ·obtain⟨p,dx,c,i,ww,o,rfl,_⟩:=h
  rfl
 ·obtain⟨p,dx,c,i,ww,o,rfl,hp,k⟩:=h
  refine⟨_,zAe (zBn (pv 0) (pv 1) rfl) (zAe (zBn (pv 0) (pv 2) rfl) (zAe (zBn (pv 0) (pv 3) rfl) (zAf (zBn (pv 0) (pv 4) rfl)))),?_⟩
  refine (zq rfl (zq rfl ⟨p,CR,dx,[],rfl,hp,B.cl,B.n1,(by show 0 < 1000;decide),?_⟩))
  refine (zq rfl (zq rfl ⟨p,CR,dx,(zq rfl ⟨zAb,B.cl,B.n2,(by show 1 < 1000;decide),?_⟩)⟩))
  refine (zq rfl (zq rfl ⟨p,CR,dx,(zq rfl ⟨zAb,B.cl,B.n3,Nat.lt_of_le_of_lt (zAt _ _ _) (by show 2 < 1000;decide),?_⟩)⟩))
  refine (zq rfl (zq rfl ⟨p,CR,dx,(zq rfl ⟨zAb,B.cl,B.n4,Nat.lt_of_le_of_lt (Nat.le_trans (zAt _ _ _) (Nat.succ_le_succ (zAt _ _ _))) (by show 3 < 1000;decide),?_⟩)⟩))
  rw[zBh,zBh,zBh]
  exact k
noncomputable abbrev s88:Stmt:=top 102
theorem sc88:zAg ["reader","condition","input_turning","way","output_turning"] ["reader"] (zAc s88):= fsc
theorem zF2(x:List Int):VametBase.readRelation x=match VametBase.readCond x with
  | none=>none
  | some (c,x1)=>match VametBase.readProgram x1 with
   | none=>none
   | some (i,x2)=>match VametBase.readRel x2 with
    | none=>none
    | some (r,x3)=>match VametBase.readProgram x3 with
     | none=>none
     | some (o,x4)=>some (⟨c,i,r,o⟩,x4):=by
 unfold VametBase.readRelation VametBase.readPair
 cases VametBase.readCond x with
 | none=>rfl
 | some u=>
  obtain⟨c,x1⟩:=u
  simp only [Option.bind_some]
  cases VametBase.readProgram x1 with
  | none=>rfl
  | some u=>
   obtain⟨i,x2⟩:=u
   simp only [Option.bind_some]
   cases VametBase.readRel x2 with
   | none=>rfl
   | some u=>
    obtain⟨r,x3⟩:=u
    simp only [Option.bind_some]
    cases VametBase.readProgram x3 with
    | none=>rfl
    | some u=>rfl
theorem yEp{f fc fp fw CR fR0:Addr}(F:DefAt K mg "read_relation" s88 f)(B:zGy K mg CR fR0)(CRI:L2.Callee P w K mg base 1 fR0 ["self","condition","input_turning","way","output_turning"] (zUo CR))
  (mc:mg "read_condition" =some (.ref fc)) (mp:mg "read_program" =some (.ref fp)) (mw:mg "read_way" =some (.ref fw))
  (Cc:L2.Callee P w K mg base 4 fc ["reader"] (zKk K C CN VametBase.readCond (zH5 zDq))) (Cp:L2.Callee P w K mg base 6 fp ["reader"] (zKk K C CN VametBase.readProgram (zH5 zBt))) (Cw:L2.Callee P w K mg base 4 fw ["reader"] (zKk K C CN VametBase.readRel (zH5 zO7))):
  L2.Callee P w K mg base 7 f ["reader"] (zKk K C CN VametBase.readRelation fun r A v=>RelAt CR A v r):=by
 refine F.calleeE sc88 (fun vs H Q E h=>?_) (fun _ _ _ _ _ _=>b1 fun _=>rfl) (fun cdv A outer s H vs Q E hr hw h=>?_)
 ·obtain⟨r,la,l,p,rfl,_⟩:=h
  rfl
 ·obtain⟨r,la,l,p,rfl,hR,k⟩:=h
  have hr4:Room 4 _:=hr.mono (by decide)
  have hr2:Room 2 _:=hr.mono (by decide)
  rw[zF2]at k
  refine⟨_,zAe (zAq (i:=1) sc88.nd rfl (Or.inl rfl) (zAh (E:=E) Cc hr4 (by rfl) mc hw (zAa (pv 0) zAd)))
   (zAe (zAq (i:=2) sc88.nd rfl (Or.inl rfl) (zAh (E:=E) Cp hr (by rfl) mp hw (zAa (pv 0) zAd)))
   (zAe (zAq (i:=3) sc88.nd rfl (Or.inl rfl) (zAh (E:=E) Cw hr4 (by rfl) mw hw (zAa (pv 0) zAd)))
   (zAe (zAq (i:=4) sc88.nd rfl (Or.inl rfl) (zAh (E:=E) Cp hr (by rfl) mp hw (zAa (pv 0) zAd)))
   (zAf (zAi (zB0 (E:=E0) B.make CRI hr2 (by rfl) B.gl zAm (zAa (pv 1) (zAa (pv 2) (zAa (pv 3) (zAa (pv 4) zAd)))))))))),?_⟩
  have hHr:=hR.there
  refine (zq rfl ⟨r,la,l,p,rfl,hR,?_⟩)
  cases h1:VametBase.readCond (l.drop p)with
  | none=>rw[h1]at k;exact k
  | some u=>
  obtain⟨c,x1⟩:=u
  rw[h1]at k
  dsimp only at k
  intro H1 v1 q1 kp1 hR1 hq1 d1
  refine (zq rfl ⟨r,la,l,q1,rfl,hR1,?_⟩)
  rw[hq1]
  cases h2:VametBase.readProgram x1 with
  | none=>rw[h2]at k;exact fun H' kp=>k H' (kp1.trans kp)
  | some u=>
  obtain⟨i,x2⟩:=u
  rw[h2]at k
  dsimp only at k
  intro H2 v2 q2 kp2 hR2 hq2 d2
  have k12:=kp1.trans kp2
  refine (zq rfl ⟨r,la,l,q2,rfl,hR2,?_⟩)
  rw[hq2]
  cases h3:VametBase.readRel x2 with
  | none=>rw[h3]at k;exact fun H' kp=>k H' (k12.trans kp)
  | some u=>
  obtain⟨rl,x3⟩:=u
  rw[h3]at k
  dsimp only at k
  intro H3 v3 q3 kp3 hR3 hq3 d3
  have k13:=k12.trans kp3
  refine (zq rfl ⟨r,la,l,q3,rfl,hR3,?_⟩)
  rw[hq3]
  cases h4:VametBase.readProgram x3 with
  | none=>rw[h4]at k;exact fun H' kp=>k H' (k13.trans kp)
  | some u=>
  obtain⟨o,x4⟩:=u
  rw[h4]at k
  dsimp only at k
  intro H4 v4 q4 kp4 hR4 hq4 d4
  have k14:=k13.trans kp4
  have e1:Dm (mix A0 H H4) v1 (zDq c):=Dm.same (((kp2.trans kp3).trans kp4).mix hHr) d1
  have e2:Dm (mix A0 H H4) v2 (zBt i):=Dm.same ((kp3.trans kp4).mix hHr) (Dm.same kp1.mixN d2)
  have e3:Dm (mix A0 H H4) v3 (zO7 rl):=Dm.same (kp4.mix hHr) (Dm.same k12.mixN d3)
  have e4:Dm (mix A0 H H4) v4 (zBt o):=Dm.same k13.mixN d4
  obtain rfl:=Dm.int_inv (i:=zBu rl) e3
  refine (zq rfl (zq rfl (zq rfl (zq rfl (fun x dx hx hdx hne=>⟨x,dx,_,_,_,(zq rfl ⟨zAb,rfl,?_⟩)⟩)))))
  rw[zBh]
  have s5:Same H4 (upd (upd H4 dx (.own x)) x (.ins CR dx (rlF v1 v2 (.int (zBu rl)) v4))):=zA3 hx hdx
  have kE:=k14.trans (Keep.of (r:=r) s5)
  have mm:=zCz (A:=A0) (H:=H) s5
  exact k _ _ q4 kE (hR4.same s5) hq4 ⟨x,dx,v1,v2,v4,rfl,zAs (k14.free hx) zAb,e1.same mm,e2.same mm,e4.same mm⟩
end
end Rf
namespace L2
open PySem PySem.Spec PyProof.Rows
section
variable {prog:Program} {w:World} {A:Around} {E:Value->Shared->Prop} {s:Shared}
theorem zLt{k:Int}{x:Value}(h:(intKind prog w).is k x=true):∃t,x= .int k t:=Value.isInt_shape h
theorem zMu{nm:String}{a b:Addr}{S T:Int->Bool}{n m:Nat}{Q:Bool->Shared->Prop}(hA:s.heap.SetOf (intKind prog w) a S n)(hB:s.heap.SetOf (intKind prog w) b T m)(hle:n<=m)
  (h:∀r:Bool,(r=true↔∀k,S k=true->T k=true)->Q r s):wpAny (model prog w) A (Builtin.Frozenset.subsetOf nm a b) Q E s:=by
 obtain⟨o,es,ep,t,ho,hex,hd,hel,hmem,hb,hf,hn⟩:=id hA
 obtain⟨o2,es2,ep2,t2,ho2,hex2,hd2,hel2,hmem2,hb2,hf2,hn2⟩:=id hB
 unfold Builtin.Frozenset.subsetOf Builtin.Frozenset.sizeOf setEntries
 refine wpAny_bind (wpAny_bind (wpAny_bind (wpAny_setState_of ho hd hf (wpAny_pure (wpAny_pure ?_)))))
 refine wpAny_bind (wpAny_bind (wpAny_bind (wpAny_setState_of ho2 hd2 hf2 (wpAny_pure (wpAny_pure ?_)))))
 dsimp only
 rw[if_neg (by omega)]
 refine wpAny_bind (wpAny_setEpoch_of ho hd hf ?_)
 unfold Builtin.Frozenset.walkUnseen setEntries
 refine wpAny_bind ?_
 refine wpAny_bind (wpAny_bind (wpAny_setState_of ho hd hf (wpAny_pure ?_)))
 refine wpAny_bind (wpAny_bind (wpAny_setState_of ho2 hd2 hf2 (wpAny_pure ?_)))
 dsimp only
 have qt:∀e∈es.toList++es2.toList,∃k u,e.2=Value.int k u:=fun e he=>by
  rcases List.mem_append.mp he with he | he
  ·obtain⟨⟨k,hk,_⟩,_⟩:=hel e he
   obtain⟨u,hu⟩:=zLt hk
   exact⟨k,u,hu⟩
  ·obtain⟨⟨k,hk,_⟩,_⟩:=hel2 e he
   obtain⟨u,hu⟩:=zLt hk
   exact⟨k,u,hu⟩
 refine wpAny_bind (wpAny_forIn_list _ (fun rest z s'=>z=(none,())/\s'=s/\∀e∈rest,∃k u,e.2=Value.int k u) _ ?_ ?_ _ _ ⟨rfl,rfl,qt⟩)
 ·rintro x rest z s' ⟨rfl,rfl,hq⟩
  obtain⟨k,u,hx⟩:=hq x List.mem_cons_self
  rw[hx]
  refine wpAny_bind (wpAny_pure ?_)
  simp only [Bool.not_true,Bool.false_eq_true,if_false]
  exact wpAny_pure ⟨rfl,rfl,fun e he=>hq e (List.mem_cons_of_mem _ he)⟩
 ·rintro z s' ⟨rfl,rfl,_⟩
  refine wpAny_pure ?_
  refine wpAny_bind (wpAny_forIn_list _ (fun rest z s''=>z=(none,())/\s''=s'/\(∀e∈rest,e∈es.toList)/\((∀k,S k=true->T k=true)↔∀e∈rest,∀k,(intKind prog w).is k e.2=true->T k=true)) _ ?_ ?_ _ _ ⟨rfl,rfl,fun e he=>he,?_⟩)
  ·rintro x rest z s'' ⟨rfl,rfl,hsub,hiff⟩
   obtain⟨⟨k,hk,hh⟩,hsc⟩:=hel x (hsub x List.mem_cons_self)
   rw[hh]
   refine wpAny_bind (wpAny_holding (wpAny_setFind_of (knd:=intKind prog w) hk hsc hB fun r hr=>?_))
   cases hT:T k with
   | false=>
    have e:r.isNone=true:=by
     rw[hT]at hr
     cases r with
     | none=>rfl
     | some _=>cases hr
    rw[e]
    simp only [if_true]
    refine wpAny_pure (wpAny_pure (h false ⟨fun z=>(by cases z),fun z=>?_⟩))
    have:=hiff.mp z x List.mem_cons_self k hk
    rw[hT]at this
    cases this
   | true=>
    have e:r.isNone=false:=by
     rw[hT]at hr
     cases r with
     | none=>cases hr
     | some _=>rfl
    rw[e]
    simp only [Bool.false_eq_true,if_false]
    unfold Builtin.Frozenset.unchanged
    refine wpAny_bind (wpAny_bind (wpAny_setEpoch_of ho hd hf ?_))
    simp only [bne_self_eq_false,Bool.false_eq_true,if_false]
    refine wpAny_pure (wpAny_pure ⟨rfl,rfl,fun e he=>hsub e (List.mem_cons_of_mem _ he),hiff.trans ⟨fun z e he=>z e (List.mem_cons_of_mem _ he),fun z e he k' hk'=>?_⟩⟩)
    rcases List.mem_cons.mp he with rfl | he
    ·have:k'=k:=(intKind prog w).inj e.2 k' k hk' hk
     rw[this]
     exact hT
    ·exact z e he k' hk'
  ·rintro z s'' ⟨rfl,rfl,_,hiff⟩
   exact wpAny_pure (h true ⟨fun _=>hiff.mpr (fun e he=>by cases he),fun _=>rfl⟩)
  ·constructor
   ·intro z e he k hk
    exact z k ((hmem k).mpr ⟨e,he,hk⟩)
   ·intro z k hk
    obtain⟨e,he,hke⟩:=(hmem k).mp hk
    exact z e he k hke
theorem zLu:entryFor table "set.__eq__" =some Builtin.«frozenset.__eq__» :=
 entryFor_alias (id':="frozenset.__eq__") (by kernel_rfl) (by first | rfl | decide +kernel | (unfold String.splitOn;simp +decide [String.splitOnAux])) (by decide +kernel) (by kernel_rfl)
theorem zLv{a b:Addr}{S T:Int->Bool}{n m:Nat}{Q:Fin->Shared->Prop}(hA:s.heap.SetOf (intKind prog w) a S n)(hB:s.heap.SetOf (intKind prog w) b T m)
  (h:∀r:Bool,(r=true↔n=m/\∀k,S k=true->T k=true)->Q (.done (.ret (.bool r))) s):wpAny (model prog w) A (Builtin.«frozenset.__eq__» ⟨[.ref a,.ref b],[]⟩) Q E s:=by
 obtain⟨o,es,ep,t,ho,hex,hd,hel,hmem,hb,hf,hn⟩:=id hA
 obtain⟨o2,es2,ep2,t2,ho2,hex2,hd2,hel2,hmem2,hb2,hf2,hn2⟩:=id hB
 show wpAny _ _ (Builtin.Frozenset.slot1 "__eq__" ⟨[.ref a,.ref b],[]⟩ >>= _) _ _ _
 refine wpAny_bind (wpAny_bind (wpAny_pure (wpAny_pure ?_)))
 dsimp only
 have tA:s.TypeIs (.ref a) "set":=hA.typeIs
 have tB:s.TypeIs (.ref b) "set":=hB.typeIs
 unfold Builtin.Frozenset.isAnySet
 refine wpAny_bind (wpAny_bind (wpAny_isInstance tB sub_set_self ?_))
 refine wpAny_pure ?_
 simp only [Bool.not_true,Bool.false_eq_true,if_false]
 refine wpAny_bind (wpAny_pure (wpAny_bind (wpAny_pure ?_)))
 unfold Builtin.Frozenset.sizeOf setEntries
 refine wpAny_bind (wpAny_bind (wpAny_bind (wpAny_setState_of ho hd hf (wpAny_pure (wpAny_pure ?_)))))
 refine wpAny_bind (wpAny_bind (wpAny_bind (wpAny_setState_of ho2 hd2 hf2 (wpAny_pure (wpAny_pure ?_)))))
 dsimp only
 by_cases e:n=m
 ·have e1:(es.size != es2.size)=false:=by rw[hn,hn2,e];simp
  rw[e1]
  simp only [Bool.false_eq_true,if_false]
  refine wpAny_bind (wpAny_bind (wpAny_bind (wpAny_isInstance tA PySem.F.sub_set_frozenset ?_)))
  refine wpAny_pure ?_
  simp only [Bool.false_eq_true,if_false]
  refine zMu hA hB (by omega) fun r hr=>wpAny_pure (h r ?_)
  rw[hr]
  exact⟨fun z=>⟨e,z⟩,fun z=>z.2⟩
 ·have e1:(es.size != es2.size)=true:=by rw[hn,hn2];simpa using e
  rw[e1]
  simp only [if_true]
  exact wpAny_bind (wpAny_pure (wpAny_pure (h false ⟨fun z=>(by cases z),fun z=>absurd z.1 e⟩)))
theorem zUp{a b:Addr}{S T:Int->Bool}{n m:Nat}{Q:Value->Shared->Prop}(hA:s.heap.SetOf (intKind prog w) a S n)(hB:s.heap.SetOf (intKind prog w) b T m)(hu:A.units < cLine)
  (h:∀r:Bool,(r=true↔n=m/\∀k,S k=true->T k=true)->Q (.bool r) s):wpAny (model prog w) A (richCompare .Eq (.ref a) (.ref b)) Q E s:=by
 refine wpAny_richCompare_same_room hA.typeIs hB.typeIs PySem.F.slot_set_eq ?_ hu
 refine wpAny_call_entry PySem.F.slot_set_eq hA.typeIs zLu ?_ (PySem.F.args_set_eq_2 _ _)
 exact zLv hA hB fun r hr=>(zq rfl ⟨(fun x=>nomatch x),h r hr⟩)
end
theorem zJ1(ns:List Int):firstMet (fun i=>ns.getD i 0) ns.length=VametBase.onceOnly ns:=by
 have e1:(List.range ns.length).map (fun i=>ns.getD i 0)=ns:=by
  apply List.ext_getElem
  ·simp
  ·intro i h1 h2
   simp[List.getD,h2]
 unfold firstMet
 rw[e1]
 show ns.foldl step_dedup [] =ns.foldl (fun k x=>if k.contains x then k else k++ [x]) []
 congr 1
 funext k x
 unfold step_dedup
 have e:k.any (· == x)=k.contains x:=by
  rw[Bool.eq_iff_iff,List.any_eq_true,List.contains_iff_mem]
  constructor
  ·rintro⟨y,hy,e⟩;rw[<-eq_of_beq e];exact hy
  ·intro h;exact⟨x,h,beq_self_eq_true x⟩
 rw[e]
section
variable {X:Cx}
theorem zH7(hc:X.calm=true):zFs X (.type "set") (fun xs H Q=>∃a ns,xs= [V.ref a]/\SqL X.K H a (List.map V.int ns)/\ns.length<=1000/\∀p,H p=none->Q (.ref p) (upd H p (.set (fun k=>decide (k∈ns)) (VametBase.onceOnly ns).length))):=by
 intro pins s σ H xs us Q I r h
 obtain⟨a,ns,rfl,hs,hl,q⟩:=h
 obtain⟨u,rfl,ru⟩:=zMh r
 cases ru
 obtain⟨its,rv,hp,hz⟩:=I.list hs
 have hlen:its.length=ns.length:=by rw[<-rv.length,List.length_map]
 refine call_set_list (I.ok.hd hc) hp.isList (by simpa using zI1 rv) (by rw[List.size_toArray,hlen];exact Nat.lt_of_le_of_lt (Nat.succ_le_succ hl) (by decide)) fun h' tk hS hk=>?_
 have hsz:its.toArray.size=ns.length:=by rw[List.size_toArray,hlen]
 rw[hsz,zJ1]at hS
 have hS':h'.SetOf (intKind X.prog X.w) s.heap.objs.size (fun k=>decide (k∈ns)) (VametBase.onceOnly ns).length:=SetOf_congr hS (fun k=>by
  rw[Bool.eq_iff_iff,List.any_eq_true,decide_eq_true_iff]
  constructor
  ·rintro⟨y,hy,e⟩;rw[<-eq_of_beq e];exact Rf.mem_once.mp hy
  ·intro h;exact⟨k,Rf.mem_once.mpr h,beq_self_eq_true k⟩) rfl
 exact⟨.ref _,_,I.laid (t':=tk) (o:= .set (fun k=>decide (k∈ns)) (VametBase.onceOnly ns).length) (fun b o e=>hk b o (Heap.lt_size e) e) (Nat.le_refl _) hS',rfl,q _ (I.hok.fresh (Nat.le_refl _))⟩
theorem zMv:zFs X (.builtin "len") (fun xs H Q=>∃a S n,xs= [V.ref a]/\H a=some (.set S n)/\Q (.int (n:Nat)) H):=by
 intro pins s σ H xs us Q I r h
 obtain⟨a,S,n,rfl,ha,q⟩:=h
 obtain⟨u,rfl,ru⟩:=zMh r
 cases ru
 obtain⟨o,es,ep,t,ho,hex,hd,hel,hmem,hb,hf,hn⟩:s.heap.SetOf (intKind X.prog X.w) a S n:=I.hok a _ ha
 have hfit:(es.size:Int) < 2 ^ 63:=by
  have:scanBound<=2 ^ 62:=by decide
  omega
 refine call_len_set ho hex hd hf hfit ⟨.int (n:Nat),H,I.tok _,⟨_,by rw[hn]⟩,q⟩
theorem zQl(hu:X.A.units < cLine):OpR X (compareOp .Eq) (fun x y H Q=>∃a b S T n m,x= .ref a/\y= .ref b/\H a=some (.set S n)/\H b=some (.set T m)/\∀r:Bool,(r=true↔n=m/\∀k,S k=true->T k=true)->Q (.bl r) H):=by
 intro pins s σ H x y v u Q I rx ry h
 obtain⟨a,b,S,T,n,m,rfl,rfl,ha,hb,q⟩:=h
 cases rx
 cases ry
 have hA:s.heap.SetOf (intKind X.prog X.w) a S n:=I.hok a _ ha
 have hB:s.heap.SetOf (intKind X.prog X.w) b T m:=I.hok b _ hb
 show wpAny _ _ (richCompare .Eq (.ref a) (.ref b)) _ _ _
 exact zUp hA hB hu fun r hr=>⟨.bl r,H,I,rfl,q r hr⟩
end
end L2
namespace L2
open PySem PySem.Spec PyProof.Rows
noncomputable abbrev zCa(h:Heap)(T:Addr)(a b c:Value):Prop:=h.get? T=some {cls:= .type "tuple",data:= .seq #[a,b,c]}
structure zDr(z TI TO i1 i2 i3 l1 l2 l3:Addr):Prop where
 TIz:TI≠z
 TOz:TO≠z
 i1z:i1≠z
 i2z:i2≠z
 i3z:i3≠z
 TITO:TI≠TO
 TIi1:TI≠i1
 TIi2:TI≠i2
 TIi3:TI≠i3
 TOi1:TO≠i1
 TOi2:TO≠i2
 TOi3:TO≠i3
 i12:i1≠i2
 i13:i1≠i3
 i23:i2≠i3
 l1z:l1≠z
 l2z:l2≠z
 l2TO:l2≠TO
 l2i1:l2≠i1
 l3z:l3≠z
 l3TO:l3≠TO
 l3i1:l3≠i1
 l3i2:l3≠i2
section
variable {prog:Program} {w:World} {A:Around} {E:Value->Shared->Prop} {s:Shared}
theorem zDn{T:Addr}{a b c x:Value}{k:Nat}{Q:Unit->Shared->Prop}(hT:zCa s.heap T a b c)
  (h:∀h',h'.get? T=some {cls:= .type "tuple",data:= .seq ((#[a,b,c]:Array Value).setIfInBounds k x)}->Heap.SameBut T s.heap h'->Q () {s with heap:=h'}):
  wpAny (model prog w) A (updateSeq T (·.setIfInBounds k x)) Q E s:=by
 refine wpAny_updateSeq hT rfl (h _ ?_ (Heap.SameBut.update ..))
 rw[Heap.get?_update_self _ hT rfl]
 simp[Obj.mapSeq]
theorem zIk{z TI TO i1 i2 i3 l1 l2 l3:Addr}{k1 k2 k3:Nat}{xs ys zs:Array Value}{x y u a b c:Value}{Q:Value->Shared->Prop}(D:zDr z TI TO i1 i2 i3 l1 l2 l3)
  (hz:IsZip s.heap z TI TO .none) (hTI:zCa s.heap TI (.ref i1) (.ref i2) (.ref i3)) (hTO:zCa s.heap TO a b c)
  (h1:s.heap.IsListIter i1 l1 k1) (h2:s.heap.IsListIter i2 l2 k2) (h3:s.heap.IsListIter i3 l3 k3) (hl1:s.heap.IsList l1 xs) (hl2:s.heap.IsList l2 ys) (hl3:s.heap.IsList l3 zs) (hx:xs[k1]? =some x) (hy:ys[k2]? =some y) (hu:zs[k3]? =some u)
  (hQ:∀h',IsZip h' z TI TO (rawInt s.heap.objs.size)->zCa h' TO x y u->h'.IsListIter i1 l1 (k1+1)->h'.IsListIter i2 l2 (k2+1)->h'.IsListIter i3 l3 (k3+1)->zCa h' s.heap.objs.size x y u->h'.objs.size=s.heap.objs.size+1->
   (∀c o,c≠z->c≠TO->c≠i1->c≠i2->c≠i3->s.heap.get? c=some o->h'.get? c=some o)->Q (.ref s.heap.objs.size) {s with heap:=h'}):
  wpAny (model prog w) A (Builtin.«zip.__next__» ⟨[.ref z],[]⟩) (fun fin s'=>∃v,fin= .done (.ret v)/\Q v s') E s:=by
 show wpAny _ _ (field (.ref z) 2 >>= _) _ _ _
 refine wpAny_bind (wpAny_field hz rfl (x:= .bool false) rfl ?_)
 show wpAny _ _ (field (.ref z) 3 >>= _) _ _ _
 refine wpAny_bind (wpAny_field hz rfl (x:= .ref TI) rfl ?_)
 refine wpAny_bind (wpAny_seqItems hTI rfl ?_)
 show wpAny _ _ (Builtin.SmallTypes.ownedTupleIsFree (.ref z) >>= _) _ _ _
 refine wpAny_bind ?_
 unfold Builtin.SmallTypes.ownedTupleIsFree
 refine wpAny_bind (wpAny_field hz rfl (x:= .none) rfl (wpAny_pure ?_))
 simp only [if_true]
 refine wpAny_bind (wpAny_rule ?_)
 refine wpAny_bind (wpAny_field hz rfl (x:= .ref TO) rfl ?_)
 refine wpAny_bind (wpAny_setField_rec hz (by simp) fun h₁ hz₁ hs₁=>?_)
 replace hz₁:IsZip h₁ z TI TO .ellipsis:=hz₁
 refine wpAny_bind ?_
 simp only [List.zipIdx_cons,List.zipIdx_nil,List.forIn_cons,List.forIn_nil]
 refine wpAny_bind (wpAny_bind (wpAny_onRaise ?_))
 show wpAny _ _ (Builtin.SmallTypes.nextOf (.ref i1) >>= _) _ _ _
 refine wpAny_bind (wpAny_nextOf_list_item (h1.extBut hs₁.extBut D.i1z) (hl1.extBut hs₁.extBut D.l1z) hx fun h₂ h1₂ hs₂=>wpAny_pure ?_)
 have hTO₂:zCa h₂ TO a b c:=hs₂.extBut _ _ D.TOi1 (hs₁.extBut _ _ D.TOz hTO)
 refine wpAny_bind (wpAny_seqItems hTO₂ rfl ?_)
 refine wpAny_bind (zDn hTO₂ fun h₃ hTO₃ hs₃=>?_)
 replace hTO₃:zCa h₃ TO x b c:=hTO₃
 refine wpAny_bind (wpAny_letGo (wpAny_pure ?_))
 refine wpAny_bind (wpAny_bind (wpAny_onRaise ?_))
 show wpAny _ _ (Builtin.SmallTypes.nextOf (.ref i2) >>= _) _ _ _
 refine wpAny_bind (wpAny_nextOf_list_item (((h2.extBut hs₁.extBut D.i2z).extBut hs₂.extBut D.i12.symm).extBut hs₃.extBut D.TOi2.symm)
  (((hl2.extBut hs₁.extBut D.l2z).extBut hs₂.extBut D.l2i1).extBut hs₃.extBut D.l2TO) hy fun h₄ h2₄ hs₄=>wpAny_pure ?_)
 have hTO₄:zCa h₄ TO x b c:=hs₄.extBut _ _ D.TOi2 hTO₃
 refine wpAny_bind (wpAny_seqItems hTO₄ rfl ?_)
 refine wpAny_bind (zDn hTO₄ fun h₅ hTO₅ hs₅=>?_)
 replace hTO₅:zCa h₅ TO x y c:=hTO₅
 refine wpAny_bind (wpAny_letGo (wpAny_pure ?_))
 refine wpAny_bind (wpAny_bind (wpAny_onRaise ?_))
 show wpAny _ _ (Builtin.SmallTypes.nextOf (.ref i3) >>= _) _ _ _
 refine wpAny_bind (wpAny_nextOf_list_item (((((h3.extBut hs₁.extBut D.i3z).extBut hs₂.extBut D.i13.symm).extBut hs₃.extBut D.TOi3.symm).extBut hs₄.extBut D.i23.symm).extBut hs₅.extBut D.TOi3.symm)
  (((((hl3.extBut hs₁.extBut D.l3z).extBut hs₂.extBut D.l3i1).extBut hs₃.extBut D.l3TO).extBut hs₄.extBut D.l3i2).extBut hs₅.extBut D.l3TO) hu fun h₆ h3₆ hs₆=>wpAny_pure ?_)
 have hTO₆:zCa h₆ TO x y c:=hs₆.extBut _ _ D.TOi3 hTO₅
 refine wpAny_bind (wpAny_seqItems hTO₆ rfl ?_)
 refine wpAny_bind (zDn hTO₆ fun h₇ hTO₇ hs₇=>?_)
 replace hTO₇:zCa h₇ TO x y u:=hTO₇
 refine wpAny_bind (wpAny_letGo (wpAny_pure (wpAny_pure ?_)))
 refine wpAny_bind (wpAny_seqItems hTO₇ rfl ?_)
 refine wpAny_bind (wpAny_newTuple ?_)
 have hsz:h₇.objs.size=s.heap.objs.size:=by rw[hs₇.1,hs₆.1,hs₅.1,hs₄.1,hs₃.1,hs₂.1,hs₁.1]
 have hz₇:IsZip h₇ z TI TO .ellipsis:=hs₇.extBut _ _ D.TOz.symm (hs₆.extBut _ _ D.i3z.symm (hs₅.extBut _ _ D.TOz.symm (hs₄.extBut _ _ D.i2z.symm (hs₃.extBut _ _ D.TOz.symm (hs₂.extBut _ _ D.i1z.symm hz₁)))))
 have hk₇:∀c o,c≠z->c≠TO->c≠i1->c≠i2->c≠i3->s.heap.get? c=some o->h₇.get? c=some o:=fun c o c1 c2 c3 c4 c5 e=>
  hs₇.extBut _ _ c2 (hs₆.extBut _ _ c5 (hs₅.extBut _ _ c2 (hs₄.extBut _ _ c4 (hs₃.extBut _ _ c2 (hs₂.extBut _ _ c3 (hs₁.extBut _ _ c1 e))))))
 have h1₇:h₇.IsListIter i1 l1 (k1+1):=((((h1₂.extBut hs₃.extBut D.TOi1.symm).extBut hs₄.extBut D.i12).extBut hs₅.extBut D.TOi1.symm).extBut hs₆.extBut D.i13).extBut hs₇.extBut D.TOi1.symm
 have h2₇:h₇.IsListIter i2 l2 (k2+1):=((h2₄.extBut hs₅.extBut D.TOi2.symm).extBut hs₆.extBut D.i23).extBut hs₇.extBut D.TOi2.symm
 have h3₇:h₇.IsListIter i3 l3 (k3+1):=h3₆.extBut hs₇.extBut D.TOi3.symm
 have hzlt:z < h₇.objs.size:=Heap.lt_size hz₇
 have hTOlt:TO < h₇.objs.size:=Heap.lt_size hTO₇
 show wpAny _ _ (Builtin.SmallTypes.ownedTupleHandOut (.ref z) (.ref h₇.objs.size) >>= _) _ _ _
 refine wpAny_bind ?_
 unfold Builtin.SmallTypes.ownedTupleHandOut
 have hz₈:IsZip (h₇.push {cls:= .type "tuple",data:= .seq #[x,y,u]}) z TI TO .ellipsis:=Heap.get?_push_of_some _ hz₇
 refine wpAny_bind (wpAny_setField_rec hz₈ (by simp) fun h₉ hz₉ hs₉=>?_)
 replace hz₉:IsZip h₉ z TI TO (rawInt h₇.objs.size):=hz₉
 refine wpAny_setField_rec hz₉ (by simp) fun hA hzA hsA=>?_
 replace hzA:IsZip hA z TI TO (rawInt h₇.objs.size):=hzA
 have up:∀c o,c≠z->h₇.get? c=some o->hA.get? c=some o:=fun c o c1 e=>hsA.extBut _ _ c1 (hs₉.extBut _ _ c1 (Heap.get?_push_of_some _ e))
 have hTA:zCa hA h₇.objs.size x y u:=hsA.extBut _ _ (Nat.ne_of_gt hzlt) (hs₉.extBut _ _ (Nat.ne_of_gt hzlt) (Heap.get?_push_size _ rfl))
 have hzA2:hA.objs.size=h₇.objs.size+1:=by rw[hsA.1,hs₉.1,Heap.size_push]
 rw[hsz]at hzA hTA hzA2
 refine wpAny_pure (zq rfl ?_)
 show Q (.ref h₇.objs.size) _
 rw[hsz]
 exact hQ hA hzA (up _ _ D.TOz hTO₇) (h1₇.at fun o e=>up _ o D.i1z e) (h2₇.at fun o e=>up _ o D.i2z e) (h3₇.at fun o e=>up _ o D.i3z e) hTA hzA2 fun c o c1 c2 c3 c4 c5 e=>up c o c1 (hk₇ c o c1 c2 c3 c4 c5 e)
theorem zJ2{z TI TO i1 i2 i3 l1 l2 l3:Addr}{k1:Nat}{xs:Array Value}{Q:Fin->Shared->Prop}(hh:A.handled=none)(D:zDr z TI TO i1 i2 i3 l1 l2 l3)
  (hz:IsZip s.heap z TI TO .none) (hTI:zCa s.heap TI (.ref i1) (.ref i2) (.ref i3)) (h1:s.heap.IsListIter i1 l1 k1) (hl1:s.heap.IsList l1 xs) (hx:xs[k1]? =none)
  (hE:∀h' e,(∀c o,c≠z->c≠i1->s.heap.get? c=some o->h'.get? c=some o)->(∃o,h'.get? e=some o/\o.cls= .type "StopIteration")->E (.ref e) {s with heap:=h'}):
  wpAny (model prog w) A (Builtin.«zip.__next__» ⟨[.ref z],[]⟩) Q E s:=by
 show wpAny _ _ (field (.ref z) 2 >>= _) _ _ _
 refine wpAny_bind (wpAny_field hz rfl (x:= .bool false) rfl ?_)
 show wpAny _ _ (field (.ref z) 3 >>= _) _ _ _
 refine wpAny_bind (wpAny_field hz rfl (x:= .ref TI) rfl ?_)
 refine wpAny_bind (wpAny_seqItems hTI rfl ?_)
 show wpAny _ _ (Builtin.SmallTypes.ownedTupleIsFree (.ref z) >>= _) _ _ _
 refine wpAny_bind ?_
 unfold Builtin.SmallTypes.ownedTupleIsFree
 refine wpAny_bind (wpAny_field hz rfl (x:= .none) rfl (wpAny_pure ?_))
 simp only [if_true]
 refine wpAny_bind (wpAny_rule ?_)
 refine wpAny_bind (wpAny_field hz rfl (x:= .ref TO) rfl ?_)
 refine wpAny_bind (wpAny_setField_rec hz (by simp) fun h₁ hz₁ hs₁=>?_)
 replace hz₁:IsZip h₁ z TI TO .ellipsis:=hz₁
 refine wpAny_bind ?_
 simp only [List.zipIdx_cons,List.zipIdx_nil,List.forIn_cons,List.forIn_nil]
 refine wpAny_bind (wpAny_bind (wpAny_onRaise ?_))
 show wpAny _ _ (Builtin.SmallTypes.nextOf (.ref i1) >>= _) _ _ _
 refine wpAny_bind (wpAny_nextOf_list_end hh (h1.extBut hs₁.extBut D.i1z) (hl1.extBut hs₁.extBut D.l1z) hx fun h₂ e hs₂ he=>?_)
 obtain⟨oe,hoe,hce⟩:=he
 have hz₂:IsZip h₂ z TI TO .ellipsis:=hs₂ _ _ D.i1z.symm hz₁
 have hez:e≠z:=fun x=>by subst x;rw[hz₂]at hoe;cases hoe;simp at hce
 refine wpAny_setField_rec hz₂ (by simp) fun h₃ _ hs₃=>hE h₃ e (fun c o c1 c3 x=>hs₃.extBut _ _ c1 (hs₂ _ _ c3 (hs₁.extBut _ _ c1 x))) ⟨oe,hs₃.extBut _ _ hez hoe,hce⟩
theorem zG6{z TI TO i1 i2 i3 l1 l2 l3:Addr}{k1 k2 k3:Nat}{xs ys zs:Array Value}{x y u a b c:Value}{Q:Option Value->Shared->Prop}(D:zDr z TI TO i1 i2 i3 l1 l2 l3)
  (hz:IsZip s.heap z TI TO .none) (hTI:zCa s.heap TI (.ref i1) (.ref i2) (.ref i3)) (hTO:zCa s.heap TO a b c)
  (h1:s.heap.IsListIter i1 l1 k1) (h2:s.heap.IsListIter i2 l2 k2) (h3:s.heap.IsListIter i3 l3 k3) (hl1:s.heap.IsList l1 xs) (hl2:s.heap.IsList l2 ys) (hl3:s.heap.IsList l3 zs) (hx:xs[k1]? =some x) (hy:ys[k2]? =some y) (hu:zs[k3]? =some u)
  (hQ:∀h',IsZip h' z TI TO (rawInt s.heap.objs.size)->zCa h' TO x y u->h'.IsListIter i1 l1 (k1+1)->h'.IsListIter i2 l2 (k2+1)->h'.IsListIter i3 l3 (k3+1)->zCa h' s.heap.objs.size x y u->h'.objs.size=s.heap.objs.size+1->
   (∀c o,c≠z->c≠TO->c≠i1->c≠i2->c≠i3->s.heap.get? c=some o->h'.get? c=some o)->Q (some (.ref s.heap.objs.size)) {s with heap:=h'}):
  wpAny (model prog w) A (pyNext (.ref z)) Q E s:=by
 have hT:s.TypeIs (.ref z) "zip":=⟨_,hz,rfl⟩
 unfold pyNext
 exact wpAny_bind (wpAny_attempt (wpAny_callSpecial?_slot (name:=Str.ofString "__next__") hT PySem.F.slot_zip_next
  (wpAny_call_entry PySem.F.slot_zip_next hT PySem.F.entry_zip_next
   (zIk D hz hTI hTO h1 h2 h3 hl1 hl2 hl3 hx hy hu fun h' a1 a2 a3 a4 a5 a6 a7 a8=>wpAny_pure (hQ h' a1 a2 a3 a4 a5 a6 a7 a8)) (PySem.F.args_zip_next_1 _))))
theorem zH8{z TI TO i1 i2 i3 l1 l2 l3:Addr}{k1:Nat}{xs:Array Value}{Q:Option Value->Shared->Prop}(hh:A.handled=none)(D:zDr z TI TO i1 i2 i3 l1 l2 l3)
  (hz:IsZip s.heap z TI TO .none) (hTI:zCa s.heap TI (.ref i1) (.ref i2) (.ref i3)) (h1:s.heap.IsListIter i1 l1 k1) (hl1:s.heap.IsList l1 xs) (hx:xs[k1]? =none)
  (hQ:∀h',(∀c o,c≠z->c≠i1->s.heap.get? c=some o->h'.get? c=some o)->Q none {s with heap:=h'}):wpAny (model prog w) A (pyNext (.ref z)) Q E s:=by
 have hT:s.TypeIs (.ref z) "zip":=⟨_,hz,rfl⟩
 unfold pyNext
 refine wpAny_bind (wpAny_attempt (wpAny_callSpecial?_slot (name:=Str.ofString "__next__") hT PySem.F.slot_zip_next
  (wpAny_call_entry PySem.F.slot_zip_next hT PySem.F.entry_zip_next (zJ2 hh D hz hTI h1 hl1 hx fun h' e hk he=>?_) (PySem.F.args_zip_next_1 _))))
 obtain⟨o,ho,hc⟩:=he
 refine wpAny_bind (wpAny_isInstance (T:="StopIteration") (b:=true) ⟨o,ho,hc⟩ isSubtype_stop ?_)
 exact wpAny_pure (hQ _ hk)
end
theorem zIl(a b c:Value):checkTypeCall "zip" ⟨[a,b,c],[]⟩=pure ():=by kernel_rfl
theorem zJ3(a b c:Value):checkBuiltinCall "zip.__new__" ⟨[.type "zip",a,b,c],[]⟩=pure ():=by kernel_rfl
theorem zF3(a b c d:Value):argsOk "object.__init__" ⟨[a,b,c,d],[]⟩:=by
 unfold argsOk;rw[signature?_of (id:="object.__init__") (n:=['_','_','t','i','n','i','_','_']) (o:=['t','c','e','j','b','o']) (by kernel_rfl) PySem.F.owner_object];kernel_rfl
noncomputable abbrev z3a(h:Heap)(l1:Addr):Heap:=h.push {cls:= .type "list_iterator",data:= .fields #[.ref l1,.int 0 0]}
noncomputable abbrev z3b(h:Heap)(l1 l2:Addr):Heap:=(z3a h l1).push {cls:= .type "list_iterator",data:= .fields #[.ref l2,.int 0 0]}
noncomputable abbrev z3c(h:Heap)(l1 l2 l3:Addr):Heap:=(z3b h l1 l2).push {cls:= .type "list_iterator",data:= .fields #[.ref l3,.int 0 0]}
noncomputable abbrev z3d(h:Heap)(l1 l2 l3:Addr):Heap:=(z3c h l1 l2 l3).push {cls:= .type "tuple",data:= .seq #[.ref h.objs.size,.ref (z3a h l1).objs.size,.ref (z3b h l1 l2).objs.size]}
noncomputable abbrev z3e(h:Heap)(l1 l2 l3:Addr):Heap:=(z3d h l1 l2 l3).push {cls:= .type "tuple",data:= .seq #[.none,.none,.none]}
noncomputable abbrev z3f(h:Heap)(l1 l2 l3:Addr):Heap:=(z3e h l1 l2 l3).push {cls:= .type "zip",data:= .fields #[.none,.bool false,.bool false,.ref (z3c h l1 l2 l3).objs.size,.ref (z3d h l1 l2 l3).objs.size]}
theorem zIm(l1 l2 l3:Addr)(xs ys zs:Array Value):
  Meets (Builtin.«zip.__new__» ⟨[.type "zip",.ref l1,.ref l2,.ref l3],[]⟩) (fun _ R s=>s.heap.IsList l1 xs/\s.heap.IsList l2 ys/\s.heap.IsList l3 zs/\
   R (.ok (.ret (.ref (z3e s.heap l1 l2 l3).objs.size))) {s with heap:=z3f s.heap l1 l2 l3}):=
 .of_wp fun prog w A R s h=>by
  obtain⟨hp,g,d,tk,os⟩:=s;obtain⟨hl1,hl2,hl3,h⟩:=h
  have hsub:=sub_zip
  have hL1:Heap.IsList (Shared.heap ⟨hp,g,d,tk,os⟩) l1 xs:=hl1
  have hL2:Heap.IsList (Shared.heap ⟨hp.push {cls:= .type "list_iterator",data:= .fields #[.ref l1,.int 0 0]},g,d,tk,os⟩) l2 ys:=Heap.IsList.push hl2 _
  have hL3:Heap.IsList (Shared.heap ⟨(hp.push {cls:= .type "list_iterator",data:= .fields #[.ref l1,.int 0 0]}).push {cls:= .type "list_iterator",data:= .fields #[.ref l2,.int 0 0]},g,d,tk,os⟩) l3 zs:=Heap.IsList.push (Heap.IsList.push hl3 _) _
  wp_walk using wpAny_pyIter_list hL1,wpAny_pyIter_list hL2,wpAny_pyIter_list hL3
  exact (zq rfl h)
end L2
namespace L2
open PySem PySem.Spec PyProof.Rows
section
variable {prog:Program} {w:World} {A:Around} {E:Value->Shared->Prop} {s:Shared}
theorem zOr{l1 l2 l3:Addr}{xs ys zs:Array Value}{Q:Value->Shared->Prop}(hl1:s.heap.IsList l1 xs)(hl2:s.heap.IsList l2 ys)(hl3:s.heap.IsList l3 zs)
  (h:∀h',IsZip h' (s.heap.objs.size+5) (s.heap.objs.size+3) (s.heap.objs.size+4) .none->zCa h' (s.heap.objs.size+3) (.ref s.heap.objs.size) (.ref (s.heap.objs.size+1)) (.ref (s.heap.objs.size+2))->
   zCa h' (s.heap.objs.size+4) .none .none .none->h'.IsListIter s.heap.objs.size l1 0->h'.IsListIter (s.heap.objs.size+1) l2 0->h'.IsListIter (s.heap.objs.size+2) l3 0->
   (∀c o,s.heap.get? c=some o->h'.get? c=some o)->Q (.ref (s.heap.objs.size+5)) {s with heap:=h'}):
  wpAny (model prog w) A (call (.type "zip") [.ref l1,.ref l2,.ref l3]) Q E s:=by
 refine callType_new PySem.F.called_zip (by decide) (zIl _ _ _) (zJ3 _ _ _) (fun obj=>zF3 obj _ _ _) PySem.F.entry_zip_new
  (zIm l1 l2 l3 xs ys zs) ⟨hl1,hl2,hl3,?_⟩
 have z1:(z3a s.heap l1).objs.size=s.heap.objs.size+1:=Heap.size_push ..
 have z2:(z3b s.heap l1 l2).objs.size=s.heap.objs.size+2:=by rw[Heap.size_push,z1]
 have z3:(z3c s.heap l1 l2 l3).objs.size=s.heap.objs.size+3:=by rw[Heap.size_push,z2]
 have z4:(z3d s.heap l1 l2 l3).objs.size=s.heap.objs.size+4:=by rw[Heap.size_push,z3]
 have z5:(z3e s.heap l1 l2 l3).objs.size=s.heap.objs.size+5:=by rw[Heap.size_push,z4]
 have g6:(z3f s.heap l1 l2 l3).get? (z3e s.heap l1 l2 l3).objs.size=some _:=Heap.get?_push_size _ rfl
 have g5:(z3f s.heap l1 l2 l3).get? (z3d s.heap l1 l2 l3).objs.size=some _:=Heap.get?_push_of_some _ (Heap.get?_push_size _ rfl)
 have g4:(z3f s.heap l1 l2 l3).get? (z3c s.heap l1 l2 l3).objs.size=some _:=Heap.get?_push_of_some _ (Heap.get?_push_of_some _ (Heap.get?_push_size _ rfl))
 have g3:(z3f s.heap l1 l2 l3).get? (z3b s.heap l1 l2).objs.size=some _:=Heap.get?_push_of_some _ (Heap.get?_push_of_some _ (Heap.get?_push_of_some _ (Heap.get?_push_size _ rfl)))
 have g2:(z3f s.heap l1 l2 l3).get? (z3a s.heap l1).objs.size=some _:=Heap.get?_push_of_some _ (Heap.get?_push_of_some _ (Heap.get?_push_of_some _ (Heap.get?_push_of_some _ (Heap.get?_push_size _ rfl))))
 have g1:(z3f s.heap l1 l2 l3).get? s.heap.objs.size=some _:=Heap.get?_push_of_some _ (Heap.get?_push_of_some _ (Heap.get?_push_of_some _ (Heap.get?_push_of_some _ (Heap.get?_push_of_some _ (Heap.get?_push_size _ rfl)))))
 show _/\_
 rw[z3,z4,z5]at g6
 rw[z1,z2,z3]at g4
 rw[z4]at g5
 rw[z1]at g2
 rw[z2]at g3
 rw[z5]
 exact⟨⟨_,g6,rfl⟩,h _ g6 g4 g5 ⟨_,g1,rfl,rfl⟩ ⟨_,g2,rfl,rfl⟩ ⟨_,g3,rfl,rfl⟩ fun c o x=>
  Heap.get?_push_of_some _ (Heap.get?_push_of_some _ (Heap.get?_push_of_some _ (Heap.get?_push_of_some _ (Heap.get?_push_of_some _ (Heap.get?_push_of_some _ x)))))⟩
end
noncomputable def zWh(K:PySem.W.Frag)(a b c:Addr):It:=
 ⟨fun i H=>∃(xs ys zs:List V) (x y z:V),SqL K H a xs/\SqL K H b ys/\SqL K H c zs/\xs[i]? =some x/\ys[i]? =some y/\zs[i]? =some z,
  fun i H v H'=>∃T x y z,v= .ref T/\H T=none/\H'=upd H T (.tup [x,y,z])/\(∀xs,SqL K H a xs->xs[i]? =some x)/\(∀ys,SqL K H b ys->ys[i]? =some y)/\∀zs,SqL K H c zs->zs[i]? =some z,
  fun i H=>∃xs:List V,SqL K H a xs/\xs.length<=i⟩
theorem zQm{P:Program}{w:World}{K:PySem.W.Frag}{elts:List Expr}{kk:Nat}{tpos:Pos}{a b c z TI TO i1 i2 i3:Addr}(D:zDr z TI TO i1 i2 i3 a b c):
  zQ8 P w K (.Tuple elts kk tpos) (zWh K a b c) [z,TI,TO,i1,i2,i3] z (fun i h=>IsZip h z TI TO .none/\zCa h TI (.ref i1) (.ref i2) (.ref i3)/\(∃x y u,zCa h TO x y u)/\h.IsListIter i1 a i/\h.IsListIter i2 b i/\h.IsListIter i3 c i) where
 mem:=by simp
 obj:=fun i h st d hc=>by
  obtain⟨hz,hTI,⟨x,y,u,hTO⟩,⟨o1,e1,_,d1⟩,⟨o2,e2,_,d2⟩,⟨o3,e3,_,d3⟩⟩:=st
  have e':d=z\/d=TI\/d=TO\/d=i1\/d=i2\/d=i3:=by simpa using hc
  rcases e' with q | q | q | q | q | q
  ·rw[q];exact⟨_,hz,fun v q=>nomatch q⟩
  ·rw[q];exact⟨_,hTI,fun v q=>nomatch q⟩
  ·rw[q];exact⟨_,hTO,fun v q=>nomatch q⟩
  ·rw[q];exact⟨o1,e1,fun v q=>by rw[d1]at q;cases q⟩
  ·rw[q];exact⟨o2,e2,fun v q=>by rw[d2]at q;cases q⟩
  ·rw[q];exact⟨o3,e3,fun v q=>by rw[d3]at q;cases q⟩
 keep:=fun i h h' st k=>by
  obtain⟨hz,hTI,⟨x,y,u,hTO⟩,h1,h2,h3⟩:=st
  exact⟨k z (by simp) _ hz,k TI (by simp) _ hTI,⟨x,y,u,k TO (by simp) _ hTO⟩,h1.at fun o q=>k i1 (by simp) o q,h2.at fun o q=>k i2 (by simp) o q,h3.at fun o q=>k i3 (by simp) o q⟩
 item:=by
  intro X hP hw hK hc i pins s σ H E I hf st hg
  subst hP hw hK
  obtain⟨hz,hTI,⟨x0,y0,u0,hTO⟩,h1,h2,h3⟩:=st
  obtain⟨xs,ys,zs,x,y,v,hqx,hqy,hqz,hx,hy,hv⟩:=hg
  obtain⟨its,rv,p,_⟩:=I.list hqx
  obtain⟨its2,rv2,p2,_⟩:=I.list hqy
  obtain⟨its3,rv3,p3,_⟩:=I.list hqz
  obtain⟨u,hu,ru⟩:=rv.get hx
  obtain⟨u2,hu2,ru2⟩:=rv2.get hy
  obtain⟨u3,hu3,ru3⟩:=rv3.get hv
  have hzl:z < s.heap.objs.size:=Heap.lt_size hz
  refine zG6 D hz hTI hTO h1 h2 h3 p.isList p2.isList p3.isList (x:=u) (y:=u2) (u:=u3) (by simpa using hu) (by simpa using hu2) (by simpa using hu3) fun h' z' TO' h1' h2' h3' hT hsz hk=>?_
  refine (zq rfl (wpAny_letOwnedTupleGo_zip (s:={s with heap:=h'}) z' fun h'' z'' sb=>?_))
  have hT2:h''.get? s.heap.objs.size=some {cls:= .type "tuple",data:= .seq #[u,u2,u3]}:=(sb.2 _ (Nat.ne_of_gt hzl)).trans hT
  have new:ObjOk X.prog X.w (upd H s.heap.objs.size (.tup [x,y,v])) h'' s.heap.objs.size (.tup [x,y,v]):=
   ⟨by show 3<=sizeLine;decide,[u,u2,u3],.cons ru (.cons ru2 (.cons ru3 .nil)),⟨_,hT2,rfl,_,rfl⟩⟩
  have I1:Inv X pins σ (upd H s.heap.objs.size (.tup [x,y,v])) {s with heap:=h''}:=
   I.turnedNew (t':=s.toks) (ch:=[z,TI,TO,i1,i2,i3]) (fun c o hb q=>(sb.2 c (fun q'=>hb (by simp[q']))).trans (hk c o (fun q'=>hb (by simp[q'])) (fun q'=>hb (by simp[q'])) (fun q'=>hb (by simp[q'])) (fun q'=>hb (by simp[q'])) (fun q'=>hb (by simp[q'])) q)) hf (Nat.le_refl _) new
  refine⟨.ref s.heap.objs.size,_,I1,rfl,⟨_,x,y,v,rfl,I.hok.fresh (Nat.le_refl _),rfl,fun l hl=>by rw[I.list_inj hl hqx];exact hx,fun l hl=>by rw[I.list_inj hl hqy];exact hy,fun l hl=>by rw[I.list_inj hl hqz];exact hv⟩,⟨z'',?_,⟨u,u2,u3,?_⟩,?_,?_,?_⟩,fun c hcm=>?_⟩
  ·exact(sb.2 _ D.TIz).trans (hk _ _ D.TIz D.TITO D.TIi1 D.TIi2 D.TIi3 hTI)
  ·exact(sb.2 _ D.TOz).trans TO'
  ·exact h1'.at fun o q=>(sb.2 _ D.i1z).trans q
  ·exact h2'.at fun o q=>(sb.2 _ D.i2z).trans q
  ·exact h3'.at fun o q=>(sb.2 _ D.i3z).trans q
  ·have hlt:c < s.heap.objs.size:=by
    have e':c=z\/c=TI\/c=TO\/c=i1\/c=i2\/c=i3:=by simpa using hcm
    rcases e' with q | q | q | q | q | q
    ·rw[q];exact hzl
    ·rw[q];exact Heap.lt_size hTI
    ·rw[q];exact Heap.lt_size hTO
    ·rw[q];obtain⟨_,e1,_⟩:=h1;exact Heap.lt_size e1
    ·rw[q];obtain⟨_,e2,_⟩:=h2;exact Heap.lt_size e2
    ·rw[q];obtain⟨_,e3,_⟩:=h3;exact Heap.lt_size e3
   rw[zAj (Nat.ne_of_lt hlt)]
   exact(hf c hcm).1
 done:=by
  intro X hP hw hK hc i pins s σ H E I hf st hg
  subst hP hw hK
  obtain⟨hz,hTI,⟨x0,y0,u0,hTO⟩,h1,h2,h3⟩:=st
  obtain⟨xs,hqx,hend⟩:=hg
  obtain⟨its,rv,p,_⟩:=I.list hqx
  have l1:=rv.length
  have he:its.toArray[i]? =none:=by simp;omega
  exact zH8 (I.ok.hd hc) D hz hTI h1 p.isList he fun h' hk=>⟨rfl,I.turnedL (t':=s.toks) (ch:=[z,TI,TO,i1,i2,i3]) (fun c o hb q=>
   hk c o (fun q'=>hb (by simp[q'])) (fun q'=>hb (by simp[q'])) q) hf⟩
 self:=fun A i s Q E st h=>wpAny_pyIter_zip st.1 h
theorem zOs(n a b c:Nat)(ha:a < n)(hb:b < n)(hc:c < n):zDr (n+5) (n+3) (n+4) n (n+1) (n+2) a b c:=by
 constructor <;> (show @Ne Nat _ _;omega)
noncomputable def zZb(K:PySem.W.Frag)(ta:TA):TI:=fun σ H R=>ta σ H fun vs H1=>∃a b c xs ys zs,vs= [.ref a,.ref b,.ref c]/\SqL K H1 a xs/\SqL K H1 b ys/\SqL K H1 c zs/\R (zWh K a b c) H1
theorem zUq{X:Cx}{e e2 e3:Expr}{ta:TA}{p pos tpos:Pos}{elts:List Expr}{kk:Nat}(hg:Gl X "zip")(hm:X.mg "zip" =none)(ha:PA X [e,e2,e3] ta)
  (hs:starEach [e,e2,e3] X.env=(false,eval e X.env)::starEach [e2,e3] X.env:=by rfl) (hpl:(backTo pos (starEach [e2,e3] X.env)).any (·.1)=false:=by rfl):
  PI X (.Tuple elts kk tpos) (.Call (.Name "zip" p) [e,e2,e3] [] pos) (zZb X.K ta):=by
 intro pins s σ H R I h
 refine Call_ (zHo I hg hm zLd (PyProof.Rows.callWith_type1 (thn (ha pos pins s σ H _ I h) fun us s1 ⟨vs,H1,I1,r1,q1⟩=>?_) hs hpl))
 obtain⟨a,b,c,xs,ys,zs,ex,hqx,hqy,hqz,q⟩:=q1
 subst ex
 cases r1 with
 | cons r rr=>
  cases rr with
  | cons r' rr=>
   cases rr with
   | cons r'' rr=>
   cases rr
   cases r
   cases r'
   cases r''
   obtain⟨its,rv,p1,_⟩:=I1.list hqx
   obtain⟨its2,rv2,p2,_⟩:=I1.list hqy
   obtain⟨its3,rv3,p3,_⟩:=I1.list hqz
   have la:a < s1.heap.objs.size:=p1.lt
   have lb:b < s1.heap.objs.size:=p2.lt
   have lc:c < s1.heap.objs.size:=p3.lt
   refine zOr p1.isList p2.isList p3.isList fun h' hz hTI hTO h1 h2 h3 hk=>wpAny_pyIter_zip hz ?_
   have I2:Inv X pins σ H1 {s1 with heap:=h'}:=I1.kept (t':=s1.toks) hk
   refine⟨s1.heap.objs.size+5,[s1.heap.objs.size+5,s1.heap.objs.size+3,s1.heap.objs.size+4,s1.heap.objs.size,s1.heap.objs.size+1,s1.heap.objs.size+2],_,_,H1,rfl,I2,zQm (zOs s1.heap.objs.size a b c la lb lc),⟨hz,hTI,⟨_,_,_,hTO⟩,h1,h2,h3⟩,fun d hcm=>?_,q⟩
   have e':d=s1.heap.objs.size+5\/d=s1.heap.objs.size+3\/d=s1.heap.objs.size+4\/d=s1.heap.objs.size\/d=s1.heap.objs.size+1\/d=s1.heap.objs.size+2:=by simpa using hcm
   have hle:s1.heap.objs.size<=d:=by
    rcases e' with z | z | z | z | z | z <;> (rw[z];first | exact Nat.le_add_right _ _ | exact Nat.le_refl _)
   exact I1.fpOk hle (I1.hok.fresh hle)
theorem zUr{K:PySem.W.Frag}{a b c:Addr}{xs ys zs:List V}{g:TG}{tt:TT}{te:TE}{vs:List Nat}{σ:St}{H1:Hp}{D:Addr}{Qd:Hp->Prop}(Pv:Nat->Hp->Prop)(h0:Pv 0 (upd H1 D (.lst [])))(hl:∀i H,Pv i H->SqL K H a xs/\SqL K H b ys/\SqL K H c zs)(e1:ys.length=xs.length)(e2:zs.length=xs.length)
  (hs:∀i x y z T H,xs[i]? =some x->ys[i]? =some y->zs[i]? =some z->Pv i H->H T=none->g (.ref T) (zCi σ vs) (upd H T (.tup [x,y,z])) fun σ2 H2=>zCi σ2 vs=zCi σ vs/\tt σ2 H2 fun b H3=>
   if b=true then te σ2 H3 fun y H4=>∃acc,H4 D=some (.lst acc)/\acc.length < sizeLine/\Pv (i+1) (upd H4 D (.lst (acc++ [y])))else Pv (i+1) H3) (hd:∀H,Pv xs.length H->Qd H):
  ∃W:Nat->Nat->Hp->Prop,(∃m,W 0 m (upd H1 D (.lst [])))/\∀i m H,W i m H->
   ((zWh K a b c).stop i H/\Qd H)\/((zWh K a b c).go i H/\∃Nx:Hp->Prop,(∀H',Nx H'->∃m',m' < m/\W (i+1) m' H')/\∀x H',(zWh K a b c).yld i H x H'->g x (zCi σ vs) H' fun σ2 H2=>zCi σ2 vs=zCi σ vs/\tt σ2 H2 fun b H3=>
    if b=true then te σ2 H3 fun y H4=>∃acc,H4 D=some (.lst acc)/\acc.length < sizeLine/\Nx (upd H4 D (.lst (acc++ [y])))else Nx H3):=by
 refine⟨fun i m H=>m=xs.length - i/\i<=xs.length/\Pv i H,⟨xs.length,by simp,Nat.zero_le _,h0⟩,?_⟩
 rintro i m H ⟨rfl,hi,p⟩
 obtain⟨q1,q2,q3⟩:=hl i H p
 by_cases hlt:i < xs.length
 ·have h2:i < ys.length:=by omega
  have h3:i < zs.length:=by omega
  refine .inr ⟨⟨xs,ys,zs,xs[i],ys[i],zs[i],q1,q2,q3,by simp[hlt],by simp[h2],by simp[h3]⟩,Pv (i+1),fun H' p'=>⟨xs.length - (i+1),by omega,rfl,hlt,p'⟩,fun x H' z=>?_⟩
  obtain⟨T,x1,y1,w1,e1,e2,e3,z1,z2,z3⟩:=z
  subst e1 e3
  exact hs i x1 y1 w1 T H (z1 xs q1) (z2 ys q2) (z3 zs q3) p e2
 ·have e:i=xs.length:=by omega
  subst e
  exact .inl ⟨⟨xs,q1,Nat.le_refl _⟩,hd H p⟩
end L2
namespace Rf
open PySem PySem.Spec PyProof.Rows L2
open PySem.W (WData)
theorem zJd:∀{l m:List Int},l.Nodup->(∀x∈l,x∈m)->m.length<=l.length->∀x∈m,x∈l
 | [],m,_,_,h,x,hx=>by
  have:m= []:=List.length_eq_zero_iff.mp (Nat.le_zero.mp h)
  rw[this]at hx
  cases hx
 | a::l,m,hn,hs,h,x,hx=>by
  obtain⟨h1,h2⟩:=List.nodup_cons.mp hn
  have ha:a∈m:=hs a List.mem_cons_self
  by_cases e:x=a
  ·rw[e];exact List.mem_cons_self
  ·have hs':∀y∈l,y∈m.erase a:=fun y hy=>(List.mem_erase_of_ne (fun z=>h1 (by rw[<-z];exact hy))).mpr (hs y (List.mem_cons_of_mem _ hy))
   have hl:(m.erase a).length<=l.length:=by rw[List.length_erase_of_mem ha];rw[List.length_cons]at h;omega
   exact List.mem_cons_of_mem _ (zJd h2 hs' hl x ((List.mem_erase_of_ne e).mpr hx))
theorem zUs(a b:List Int):((VametBase.onceOnly a).length=(VametBase.onceOnly b).length/\∀k,decide (k∈a)=true->decide (k∈b)=true)↔∀x,x∈a↔x∈b:=by
 constructor
 ·rintro⟨h1,h2⟩ x
  have h2':∀x∈VametBase.onceOnly a,x∈VametBase.onceOnly b:=fun x hx=>mem_once.mpr (of_decide_eq_true (h2 x (decide_eq_true (mem_once.mp hx))))
  have h3:=zJd (zDi a) h2' (by omega)
  exact⟨fun h=>of_decide_eq_true (h2 x (decide_eq_true h)),fun h=>mem_once.mp (h3 x (mem_once.mpr h))⟩
 ·intro h
  have le:∀{u v:List Int},u.Nodup->(∀x∈u,x∈v)->u.length<=v.length:=by
   intro u
   induction u with
   | nil=>intro v _ _;exact Nat.zero_le _
   | cons x u ih=>
    intro v hn hs
    obtain⟨h1,h2⟩:=List.nodup_cons.mp hn
    have hx:=hs x List.mem_cons_self
    have:=ih (v:=v.erase x) h2 fun y hy=>(List.mem_erase_of_ne (fun z=>h1 (by rw[<-z];exact hy))).mpr (hs y (List.mem_cons_of_mem _ hy))
    rw[List.length_erase_of_mem hx]at this
    have pos:0 < v.length:=List.length_pos_of_mem hx
    rw[List.length_cons]
    omega
  refine⟨Nat.le_antisymm (le (zDi a) fun x hx=>mem_once.mpr ((h x).mp (mem_once.mp hx))) (le (zDi b) fun x hx=>mem_once.mpr ((h x).mpr (mem_once.mp hx))),fun k hk=>decide_eq_true ((h k).mp (of_decide_eq_true hk))⟩
section
variable {P:Program} {w:World} {K:PySem.W.Frag} {mg:Str->Option Value} {base:Heap}
noncomputable abbrev s21:Stmt:=top 25
theorem yEq:zAg ["row","least_count"] ["row","least_count"] (zAc s21):= fsc
theorem yEr{f:Addr}(F:DefAt K mg "none_twice" s21 f)(B:Blt mg):L2.Callee P w K mg base 1 f ["row","least_count"] (zAx (RCond 4)):=by
 refine F.callee0 yEq (zD4 rfl RCond.len) (fun _ _ _ _ _ _=>b2 fun _ _=>rfl) (fun cdv A outer s H vs Q E hr h=>?_)
 obtain⟨l,c,a,rfl,hs,hn,hl,k⟩:=RCond.open h
 obtain rfl:c= .unlike:=by cases c <;> first | rfl | (exact absurd hn (by simp[zBa]))
 refine⟨_,zAf (zAi (zBd zIh (zAn zMv (by rfl) B.len PySem.boot_len (zAa (zEe (zH7 rfl) (by rfl) B.set (by decide +kernel) (zAa (pv 0) zAd)) zAd)) (zAn zAk (by rfl) B.len PySem.boot_len (zAa (pv 0) zAd)) (zA0 _))),?_⟩
 refine (zq rfl ⟨a,l,rfl,SqL.of hs,(by omega),fun p hp=>?_⟩)
 refine ⟨p,_,(zq rfl ⟨zAb,(zq rfl ⟨a,(zq rfl ⟨.inl (SqL.of (Same.upd hp _ _ hs)),rfl,k _ _ (Same.upd hp) ?_⟩)⟩)⟩)⟩
 rw[List.length_map]
 show decide (V.int ((VametBase.onceOnly l).length:Int)=V.int (l.length:Int))=((VametBase.onceOnly l).length == l.length)
 by_cases e:(VametBase.onceOnly l).length=l.length
 ·rw[e];simp
 ·rw[beq_eq_false_iff_ne.mpr e,decide_eq_false (fun z=>e (by have:=V.int.inj z;omega))]
noncomputable abbrev s28:Stmt:=top 34
theorem yEs:zAg ["left","right"] ["left","right"] (zAc s28):= fsc
theorem yEt{f:Addr}(F:DefAt K mg "same_numbers" s28 f)(B:Blt mg):L2.Callee P w K mg base 1 f ["left","right"] (zAx (RWay 2)):=by
 refine F.callee0 yEs (zD4 rfl RWay.len) (fun _ _ _ _ _ _=>b2 fun _ _=>rfl) (fun cdv A outer s H vs Q E hr h=>?_)
 obtain⟨x,y,r,a,b,rfl,hs,ht,hn,hx,hy,k⟩:=RWay.open h
 obtain rfl:r= .numbers:=by cases r <;> first | rfl | (exact absurd hn (by simp[zBu]))
 refine⟨_,zAf (zAi (zBd (zQl hr.units0) (zEe (zH7 rfl) (by rfl) B.set (by decide +kernel) (zAa (pv 0) zAd)) (zEe (zH7 rfl) (by rfl) B.set (by decide +kernel) (zAa (pv 1) zAd)) (zA0 _))),?_⟩
 refine (zq rfl ⟨a,x,rfl,SqL.of hs,(by omega),fun p hp=>?_⟩)
 refine (zq rfl ⟨b,y,rfl,SqL.of (Same.upd hp _ _ ht),(by omega),fun q hq=>?_⟩)
 refine ⟨p,q,_,_,_,(zq rfl ⟨rfl,Same.upd hq _ _ zAb,zAb,fun r hr'=>k _ _ ((Same.upd hp).trans (Same.upd hq)) ?_⟩)⟩
 rw[zUs]at hr'
 rw[Bool.eq_iff_iff,hr',zOa]
end
section
variable {P:Program} {w:World} {K:PySem.W.Frag} {mg:Str->Option Value} {base:Heap} {CF fF0 CP fP0:Addr}
noncomputable def zG7(g:zH6):Prop:=g.conds.length<=3/\g.inputs.length<=4/\g.outputs.length<=4/\g.rels.length<=7/\(∀p∈g.inputs,zBy p)/\∀p∈g.outputs,zBy p
noncomputable def zNw(CF:Addr):Sp:=fun vs H Q _=>∃v g,vs= [v]/\FamAt CF H v g/\zG7 g/\Q (.int ((Vametc.candidates g).length:Nat)) H
noncomputable abbrev s67:Stmt:=top 43
theorem sc67:zAg ["family","turnings"] ["family"] (zAc s67):= fsc
theorem yEu{f:Addr}(F:DefAt K mg "how_many_relations" s67 f)(Bl:Blt mg)(B:zJc K mg CF fF0):L2.Callee P w K mg base 1 f ["family"] (zNw CF):=by
 refine F.callee0 sc67 (fun vs H Q E h=>?_) (fun _ _ _ _ _ _=>b1 fun _=>rfl) (fun cdv A outer s H vs Q E hr h=>?_)
 ·obtain⟨v,g,rfl,_⟩:=h
  rfl
 ·obtain⟨v,g,rfl,⟨a,dx,c,i,o,ws,rfl,ha,dc,di,do_,dw⟩,ok,k⟩:=h
  obtain⟨ca,cx,rfl,hc,hcx⟩:=Dm.list_inv dc
  obtain⟨ia,ix,rfl,hi,hix⟩:=Dm.list_inv di
  obtain⟨oa,ox,rfl,ho,hox⟩:=Dm.list_inv do_
  obtain⟨wa,wx,rfl,hw,hwx⟩:=Dm.list_inv dw
  have lc:cx.length=g.conds.length:=by rw[hcx.length,List.length_map]
  have li:ix.length=g.inputs.length:=by rw[hix.length,List.length_map]
  have lo:ox.length=g.outputs.length:=by rw[hox.length,List.length_map]
  have lw:wx.length=g.rels.length:=by rw[hwx.length,List.length_map]
  obtain⟨o1,o2,o3,o4,_,_⟩:=ok
  refine⟨_,zAe (zAq (i:=1) sc67.nd rfl (Or.inl rfl) (zC3 zM3 (zAn zAk (by rfl) Bl.len PySem.boot_len (zAa (zAl (pv 0) rfl) zAd)) (zAn zAk (by rfl) Bl.len PySem.boot_len (zAa (zAl (pv 0) rfl) zAd))))
   (zAf (zAi (zC3 zM3 (zC3 zM3 (pv 1) (zAn zAk (by rfl) Bl.len PySem.boot_len (zAa (zAl (pv 0) rfl) zAd))) (zAn zAk (by rfl) Bl.len PySem.boot_len (zAa (zAl (pv 0) rfl) zAd))))),?_⟩
  refine (zq rfl (zf ha B.cl B.n2 (yA2 _ _ _ _) ⟨ia,(zq rfl ⟨.inl (SqL.of hi),(zq rfl (zf ha B.cl B.n3 (zX7 _ _ _ _) ⟨oa,(zq rfl ⟨.inl (SqL.of ho),_,(zq rfl ⟨rfl,.inl (by omega),?_⟩)⟩)⟩))⟩)⟩))
  refine (zq rfl (zq rfl (zf ha B.cl B.n1 (zX6 _ _ _ _) ⟨ca,(zq rfl ⟨.inl (SqL.of hc),_,(zq rfl ⟨rfl,.inr (by omega),(zq rfl (zf ha B.cl B.n4 (zX8 _ _ _ _) ⟨wa,(zq rfl ⟨.inl (SqL.of hw),_,(zq rfl ⟨rfl,.inr (by omega),?_⟩)⟩)⟩))⟩)⟩)⟩)))
  rw[zB4]at k
  rw[lc,li,lo,lw]
  exact k
end
noncomputable def iOf(g:zH6)(k:Nat):Nat:=k / g.rels.length / g.conds.length / g.outputs.length
noncomputable def oOf(g:zH6)(k:Nat):Nat:=k / g.rels.length / g.conds.length % g.outputs.length
noncomputable def cOf(g:zH6)(k:Nat):Nat:=k / g.rels.length % g.conds.length
noncomputable def rOf(g:zH6)(k:Nat):Nat:=k % g.rels.length
structure zWi(g:zH6)(k:Nat):Prop where
 r:rOf g k < g.rels.length
 c:cOf g k < g.conds.length
 o:oOf g k < g.outputs.length
 i:iOf g k < g.inputs.length
theorem zUt{g:zH6}{k:Nat}(h:k < (Vametc.candidates g).length):zWi g k:=by
 rw[zB4]at h
 have pR:0 < g.rels.length:=Nat.pos_of_ne_zero fun e=>by rw[e]at h;simp at h
 have pC:0 < g.conds.length:=Nat.pos_of_ne_zero fun e=>by rw[e]at h;simp at h
 have pO:0 < g.outputs.length:=Nat.pos_of_ne_zero fun e=>by rw[e]at h;simp at h
 refine⟨Nat.mod_lt _ pR,Nat.mod_lt _ pC,Nat.mod_lt _ pO,?_⟩
 unfold iOf
 rw[Nat.div_lt_iff_lt_mul pO,Nat.div_lt_iff_lt_mul pC,Nat.div_lt_iff_lt_mul pR]
 exact h
theorem zCs{α β:Type}{F:α->β}{l:List α}{i:Nat}{d:β}(h:(l.map F)[i]? =some d):∃x,l[i]? =some x/\d=F x:=by
 rw[List.getElem?_map]at h
 cases e:l[i]? with
 | none=>rw[e]at h;cases h
 | some n=>rw[e]at h;exact⟨n,rfl,(Option.some.inj h).symm⟩
theorem zDh{α:Type}{l:List α}{i:Nat}(h:i < l.length):∃x,l[i]? =some x:=⟨_,List.getElem?_eq_getElem h⟩
noncomputable def zUu(CF CR:Addr):Sp:=fun vs H Q _=>∃(A:Hp) (v:V) (g:zH6) (n:Nat) (r:VametBase.Relation),vs= [v,.int (n:Int)]/\Same A H/\FamAt CF A v g/\zG7 g/\(Vametc.candidates g)[n]? =some r/\
 ∀H' v',Same H H'->RelAt CR (mix A H H') v' r->Q v' H'
theorem zTd{g:zH6}{n:Nat}{r:VametBase.Relation}(hn:(Vametc.candidates g)[n]? =some r):∃(c:zDd) (i o:zBc) (rl:zO6),r=⟨c,i,rl,o⟩/\g.conds[cOf g n]? =some c/\g.inputs[iOf g n]? =some i/\g.outputs[oOf g n]? =some o/\g.rels[rOf g n]? =some rl/\
  0 < g.rels.length/\0 < g.conds.length/\0 < g.outputs.length:=by
 have hnl:n < (Vametc.candidates g).length:=(List.getElem?_eq_some_iff.mp hn).1
 have po:=zUt hnl
 obtain⟨c,hc⟩:=zDh po.c
 obtain⟨i,hi⟩:=zDh po.i
 obtain⟨o,ho⟩:=zDh po.o
 obtain⟨rl,hrl⟩:=zDh po.r
 have hcand:=zJj g hnl hrl hc ho hi
 rw[hn]at hcand
 exact⟨c,i,o,rl,Option.some.inj hcand,hc,hi,ho,hrl,Nat.lt_of_le_of_lt (Nat.zero_le _) po.r,Nat.lt_of_le_of_lt (Nat.zero_le _) po.c,Nat.lt_of_le_of_lt (Nat.zero_le _) po.o⟩
section
variable {P:Program} {w:World} {K:PySem.W.Frag} {mg:Str->Option Value} {base:Heap} {CF fF0 CR fR0:Addr}
noncomputable abbrev yA4:Stmt:=top 44
theorem scn44:zAg ["family","number","way","condition","output_turning","input_turning"] ["family","number"] (zAc yA4):= fsc
theorem zZc{f:Addr}(F:DefAt K mg "relation_of" yA4 f)(Bl:Blt mg)(B:zJc K mg CF fF0)(BR:zGy K mg CR fR0)(CI:L2.Callee P w K mg base 1 fR0 ["self","condition","input_turning","way","output_turning"] (zUo CR)):L2.Callee P w K mg base 3 f ["family","number"] (zUu CF CR):=by
 refine F.callee0 scn44 (fun vs H Q E h=>?_) (fun _ _ _ _ _ _=>b2 fun _ _=>rfl) (fun cdv A outer s H vs Q E hr h=>?_)
 ·obtain⟨_,_,_,_,_,rfl,_⟩:=h
  rfl
 ·obtain⟨Ar,v,g,n,r,rfl,sA,⟨a,dx,c0,i0,o0,ws,rfl,ha,dc,di,do_,dw⟩,ok,hn,k⟩:=h
  obtain⟨c,i,o,rl,rfl,hc,hi,ho,hrl,pR,pC,pO⟩:=zTd hn
  obtain⟨ca,cx,rfl,hca,hcx⟩:=Dm.list_inv dc
  obtain⟨ia,ix,rfl,hia,hix⟩:=Dm.list_inv di
  obtain⟨oa,ox,rfl,hoa,hox⟩:=Dm.list_inv do_
  obtain⟨wa,wx,rfl,hwa,hwx⟩:=Dm.list_inv dw
  have lc:(cx.length:Int)=(g.conds.length:Int):=by rw[hcx.length,List.length_map]
  have lo:(ox.length:Int)=(g.outputs.length:Int):=by rw[hox.length,List.length_map]
  have lw:(wx.length:Int)=(g.rels.length:Int):=by rw[hwx.length,List.length_map]
  obtain⟨cv,hcv,dcv⟩:=hcx.at (i:=cOf g n) (d:=zDq c) (by rw[List.getElem?_map,hc];rfl)
  obtain⟨iv,hiv,div⟩:=hix.at (i:=iOf g n) (d:=zBt i) (by rw[List.getElem?_map,hi];rfl)
  obtain⟨ov,hov,dov⟩:=hox.at (i:=oOf g n) (d:=zBt o) (by rw[List.getElem?_map,ho];rfl)
  obtain⟨wv,hwv,dwv⟩:=hwx.at (i:=rOf g n) (d:=zO7 rl) (by rw[List.getElem?_map,hrl];rfl)
  obtain rfl:=Dm.int_inv (i:=zBu rl) dwv
  have e1:(n:Int) % (wx.length:Int)=((rOf g n:Nat):Int):=by rw[lw];rfl
  have e2:(n:Int) / (wx.length:Int) % (cx.length:Int)=((cOf g n:Nat):Int):=by rw[lw,lc];rfl
  have e3:(n:Int) / (wx.length:Int) / (cx.length:Int) % (ox.length:Int)=((oOf g n:Nat):Int):=by rw[lw,lc,lo];rfl
  have e4:(n:Int) / (wx.length:Int) / (cx.length:Int) / (ox.length:Int)=((iOf g n:Nat):Int):=by rw[lw,lc,lo];rfl
  generalize rOf g n=jr at hwv e1
  generalize cOf g n=jc at hcv e2
  generalize oOf g n=jo at hov e3
  generalize iOf g n=ji at hiv e4
  obtain⟨o1,o2,o3,o4,_,_⟩:=ok
  refine⟨_,zAe (zAq (i:=2) scn44.nd rfl (Or.inl rfl) (zBi zBj (zAl (pv 0) rfl) (zC3 zKy (pv 1) (zAn zAk (by rfl) Bl.len PySem.boot_len (zAa (zAl (pv 0) rfl) zAd))) (fun _ _=>rfl)))
   (zAe (zAq (i:=1) scn44.nd rfl (Or.inl rfl) (zC3 zMf (pv 1) (zAn zAk (by rfl) Bl.len PySem.boot_len (zAa (zAl (pv 0) rfl) zAd))))
   (zAe (zAq (i:=3) scn44.nd rfl (Or.inl rfl) (zBi zBj (zAl (pv 0) rfl) (zC3 zKy (pv 1) (zAn zAk (by rfl) Bl.len PySem.boot_len (zAa (zAl (pv 0) rfl) zAd))) (fun _ _=>rfl)))
   (zAe (zAq (i:=1) scn44.nd rfl (Or.inl rfl) (zC3 zMf (pv 1) (zAn zAk (by rfl) Bl.len PySem.boot_len (zAa (zAl (pv 0) rfl) zAd))))
   (zAe (zAq (i:=4) scn44.nd rfl (Or.inl rfl) (zBi zBj (zAl (pv 0) rfl) (zC3 zKy (pv 1) (zAn zAk (by rfl) Bl.len PySem.boot_len (zAa (zAl (pv 0) rfl) zAd))) (fun _ _=>rfl)))
   (zAe (zAq (i:=5) scn44.nd rfl (Or.inl rfl) (zBi zBj (zAl (pv 0) rfl) (zC3 zMf (pv 1) (zAn zAk (by rfl) Bl.len PySem.boot_len (zAa (zAl (pv 0) rfl) zAd))) (fun _ _=>rfl)))
   (zAf (zAi (zB0 (E:=E0) BR.make CI hr (by rfl) BR.gl zAm (zAa (pv 3) (zAa (pv 5) (zAa (pv 2) (zAa (pv 4) zAd)))))))))))),?_⟩
  have ha1:=sA _ _ ha
  have hw1:=sA _ _ hwa
  have hc1:=sA _ _ hca
  have hi1:=sA _ _ hia
  have ho1:=sA _ _ hoa
  have pw:(0:Int) < (wx.length:Int):=by rw[lw];omega
  have pc:(0:Int) < (cx.length:Int):=by rw[lc];omega
  have po:(0:Int) < (ox.length:Int):=by rw[lo];omega
  have bw:(wx.length:Int)<=100:=by rw[lw];omega
  have bc:(cx.length:Int)<=100:=by rw[lc];omega
  have bo:(ox.length:Int)<=100:=by rw[lo];omega
  refine (zq rfl (zf ha1 B.cl B.n4 (zX8 _ _ _ _) (zq rfl (zq rfl (zf ha1 B.cl B.n4 (zX8 _ _ _ _) ⟨wa,(zq rfl ⟨.inl (SqL.of hw1),_,(zq rfl ⟨rfl,pw,wa,_,_,(zq rfl ⟨rfl,SqL.of hw1,(by rw[e1];exact zAw hwv),?_⟩)⟩)⟩)⟩)))))
  refine (zq rfl (zq rfl (zf ha1 B.cl B.n4 (zX8 _ _ _ _) ⟨wa,(zq rfl ⟨.inl (SqL.of hw1),_,(zq rfl ⟨rfl,⟨pw,by omega⟩,?_⟩)⟩)⟩)))
  refine (zq rfl (zf ha1 B.cl B.n1 (zX6 _ _ _ _) (zq rfl (zq rfl (zf ha1 B.cl B.n1 (zX6 _ _ _ _) ⟨ca,(zq rfl ⟨.inl (SqL.of hc1),_,(zq rfl ⟨rfl,pc,ca,_,_,(zq rfl ⟨rfl,SqL.of hc1,(by rw[e2];exact zAw hcv),?_⟩)⟩)⟩)⟩)))))
  refine (zq rfl (zq rfl (zf ha1 B.cl B.n1 (zX6 _ _ _ _) ⟨ca,(zq rfl ⟨.inl (SqL.of hc1),_,(zq rfl ⟨rfl,⟨pc,by omega⟩,?_⟩)⟩)⟩)))
  refine (zq rfl (zf ha1 B.cl B.n3 (zX7 _ _ _ _) (zq rfl (zq rfl (zf ha1 B.cl B.n3 (zX7 _ _ _ _) ⟨oa,(zq rfl ⟨.inl (SqL.of ho1),_,(zq rfl ⟨rfl,po,oa,_,_,(zq rfl ⟨rfl,SqL.of ho1,(by rw[e3];exact zAw hov),?_⟩)⟩)⟩)⟩)))))
  refine (zq rfl (zf ha1 B.cl B.n2 (yA2 _ _ _ _) (zq rfl (zq rfl (zf ha1 B.cl B.n3 (zX7 _ _ _ _) ⟨oa,(zq rfl ⟨.inl (SqL.of ho1),_,(zq rfl ⟨rfl,⟨po,by omega⟩,ia,_,_,(zq rfl ⟨rfl,SqL.of hi1,(by rw[e4];exact zAw hiv),?_⟩)⟩)⟩)⟩)))))
  refine (zq rfl (zq rfl (zq rfl (zq rfl (fun p dp hp hdp hne=>⟨p,dp,_,_,_,(zq rfl ⟨zAb,rfl,?_⟩)⟩)))))
  rw[zBh]
  have sm:Same H (upd (upd H dp (.own p)) p (.ins CR dp (rlF cv iv (.int (zBu rl)) ov))):=zA3 hp hdp
  have sx:=zBf (H':=upd (upd H dp (.own p)) p (.ins CR dp (rlF cv iv (.int (zBu rl)) ov))) sA
  exact k _ _ sm ⟨p,dp,cv,iv,ov,rfl,zAs hp zAb,dcv.same sx,div.same sx,dov.same sx⟩
end
open VametBase (within)
section
variable {r:Addr} {A H H1 H2:Hp} {o:HO}
theorem Keep.mixA(k:Keep r H1 H2)(hr:(H r).isSome=true):Same (L2.mix A H H1) (L2.mix A H H2):=fun b o e=>by
 cases q:H b with
 | some u=>rw[zA8 q]at e ⊢;exact e
 | none=>
  rw[zA7 q]at e ⊢
  exact k.1 b o e fun z=>by rw[z]at q;rw[q]at hr;cases hr
theorem Keep.mixD(k:Keep r H H1)(sA:Same A H):Same (L2.mix A H1 H2) (L2.mix A H H2):=fun b o e=>by
 cases q1:H1 b with
 | some u=>
  rw[zA8 q1]at e
  rw[zA8 (sA _ _ e)]
  exact e
 | none=>
  rw[zA7 q1]at e
  rw[zA7 (k.free q1)]
  exact e
theorem Same.hole(s:Same A H)(h:A r=none):Same A (L2.upd H r o):=fun b u e=>by
 rw[zAj (zAo e h)]
 exact s b u e
theorem Keep.inA(k:Keep r H H1)(s:Same A H)(h:A r=none):Same A H1:=fun b u e=>k.1 b u (s b u e) (zAo e h)
end
noncomputable def woS(S:List Addr)(H:Hp):Hp:=fun b=>if b∈S then none else H b
structure Keep3(l r c:Addr)(H H':Hp):Prop where
 kp:∀b o,H b=some o->b≠l->b≠r->b≠c->H' b=some o
 th:∀b,(H b).isSome=true->(H' b).isSome=true
section
variable {l r c:Addr} {A H H1 H2:Hp} {o:HO} {S:List Addr}
theorem zF4{b:Addr}(h:b∉S):woS S H b=H b:=by unfold woS;rw[if_neg h]
theorem zEt{b:Addr}(e:woS S H b=some o):H b=some o/\b∉S:=by
 unfold woS at e
 by_cases h:b∈S
 ·rw[if_pos h]at e;cases e
 ·rw[if_neg h]at e;exact⟨e,h⟩
theorem woS_same:Same (woS S H) H:=fun b o e=>(zEt e).1
theorem Keep3.refl(l r c:Addr)(H:Hp):Keep3 l r c H H:=⟨fun _ _ e _ _ _=>e,fun _ e=>e⟩
theorem Keep3.trans(a:Keep3 l r c H H1)(b:Keep3 l r c H1 H2):Keep3 l r c H H2:=⟨fun x o e n1 n2 n3=>b.kp x o (a.kp x o e n1 n2 n3) n1 n2 n3,fun x e=>b.th x (a.th x e)⟩
theorem Same.th(e:Same H H1){b:Addr}(h:(H b).isSome=true):(H1 b).isSome=true:=by
 obtain⟨o,q⟩:=Option.isSome_iff_exists.mp h
 rw[e _ _ q];rfl
theorem Keep3.of(e:Same H H1):Keep3 l r c H H1:=⟨fun b o q _ _ _=>e b o q,fun b q=>Same.th e q⟩
theorem Keep3.upd{d:Addr}(hd:d=l\/d=r\/d=c):Keep3 l r c H (L2.upd H d o):=⟨fun b u e n1 n2 n3=>by
 rw[zAj (by rcases hd with rfl | rfl | rfl <;> assumption)];exact e,fun b e=>by
 by_cases z:b=d
 ·rw[z,zAb];rfl
 ·rw[zAj z];exact e⟩
theorem Keep3.free{b:Addr}(k:Keep3 l r c H H1)(h:H1 b=none):H b=none:=by
 cases q:H b with
 | none=>rfl
 | some o=>
  have:=k.th b (by rw[q];rfl)
  rw[h]at this
  cases this
theorem Keep3.inA(k:Keep3 l r c H H1)(s:Same A H)(n1:A l=none)(n2:A r=none)(n3:A c=none):Same A H1:=fun b o e=>k.kp b o (s b o e) (zAo e n1) (zAo e n2) (zAo e n3)
theorem Keep3.wo(k:Keep3 l r c H H1)(hl:l∈S)(hr:r∈S)(hc:c∈S):Same (woS S H) (woS S H1):=fun b o e=>by
 obtain⟨e,n⟩:=zEt e
 rw[zF4 n]
 exact k.kp b o e (fun z=>n (z▸hl)) (fun z=>n (z▸hr)) (fun z=>n (z▸hc))
theorem Same.woS(e:Same H H1):Same (woS S H) (woS S H1):=fun b o q=>by
 obtain⟨q,n⟩:=zEt q
 rw[zF4 n]
 exact e b o q
theorem zLw(s:Same A H)(n:∀b∈S,A b=none):Same A (Rf.woS S H):=fun b o e=>by
 rw[zF4 (fun z=>by rw[n b z]at e;cases e)]
 exact s b o e
theorem zJ4(s:Same H H1)(n:∀b∈S,(H b).isSome=true):Same (mix (Rf.woS S H) H H1) (Rf.woS S H1):=fun b o e=>by
 cases q:H b with
 | some u=>
  rw[zA8 q]at e
  exact Same.woS s b o e
 | none=>
  rw[zA7 q]at e
  rw[zF4 (fun z=>by have:=n b z;rw[q]at this;cases this)]
  exact e
theorem zJ5(sA:Same A H)(s:Same H H1)(nA:∀b∈S,A b=none)(n:∀b∈S,(H b).isSome=true):Same (mix A H H1) (Rf.woS S H1):=fun b o e=>by
 cases q:H b with
 | some u=>
  rw[zA8 q]at e
  exact zLw (sA.trans s) nA b o e
 | none=>
  rw[zA7 q]at e
  rw[zF4 (fun z=>by have:=n b z;rw[q]at this;cases this)]
  exact e
end
noncomputable def zVa(s:zDp):List Key:=[.inl (zAy s:Int),.inl (zCo s)]
noncomputable def zGi(p:zBc):zKi:=p.map zVa
noncomputable def zLx(c:zDd):List Key:=[.inl (zBa c:Int),.inl (zCp c)]
theorem zNx{a b:zDp}(h:zVa a=zVa b):a=b:=by
 unfold zVa at h
 have h1:(zAy a:Int)=zAy b:=by
  have:=(List.cons.inj h).1
  exact Sum.inl.inj this
 have h2:zCo a=zCo b:=by
  have:=(List.cons.inj (List.cons.inj h).2).1
  exact Sum.inl.inj this
 clear h
 cases a <;> cases b <;> first
  | rfl
  | (exfalso;simp[zAy]at h1;done)
  | (simp only [zCo,Int.natCast_inj]at h2;rw[h2])
theorem zNy:∀{p q:zBc},zGi p=zGi q->p=q
 | [],[],_=>rfl
 | [],_::_,h=>by cases h
 | _::_,[],h=>by cases h
 | a::p,b::q,h=>by
  obtain⟨h1,h2⟩:=List.cons.inj h
  rw[zNx h1,zNy h2]
theorem zNz{a b:zDd}(h:zLx a=zLx b):a=b:=by
 unfold zLx at h
 have h1:(zBa a:Int)=zBa b:=by
  have:=(List.cons.inj h).1
  exact Sum.inl.inj this
 have h2:zCp a=zCp b:=by
  have:=(List.cons.inj (List.cons.inj h).2).1
  exact Sum.inl.inj this
 clear h
 cases a <;> cases b <;> first
  | rfl
  | (exfalso;simp[zBa]at h1;done)
  | (simp only [zCp,Int.natCast_inj]at h2;rw[h2])
theorem zSi{H:Hp}{v:V}{s:zDp}(h:Dm H v (zEl s)):∃b,v= .ref b/\H b=some (.tup ((zVa s).map kV)):=by
 obtain⟨T,rfl,hT⟩:=Dm.pair_inv h
 exact⟨T,rfl,hT⟩
theorem zMw{H:Hp}{b:Addr}{p:zBc}(h:Dm H (.ref b) (zBt p)):NestAt H b (zGi p):=by
 obtain⟨a,xs,e,ha,hx⟩:=Dm.tup_inv (ds:=p.map zEl) h
 cases e
 have all:∀(p:zBc) (xs:List V),DmAll H xs (p.map zEl)->∃bs:List Addr,xs=bs.map V.ref/\Paired (fun(r:List Key) (c:Addr)=>H c=some (.tup (r.map kV))) (zGi p) bs:=by
  intro p
  induction p with
  | nil=>intro xs h;cases h;exact⟨[],rfl,.nil⟩
  | cons s p ih=>
   intro xs h
   cases h with
   | cons h1 h2=>
    obtain⟨b1,rfl,hb1⟩:=zSi h1
    obtain⟨bs,rfl,hbs⟩:=ih _ h2
    exact⟨b1::bs,rfl,.cons hb1 hbs⟩
 obtain⟨bs,rfl,hbs⟩:=all p xs hx
 exact⟨bs,ha,hbs⟩
theorem zSj{H:Hp}{v:V}{c:zDd}(h:Dm H v (zDq c)):∃b,v= .ref b/\H b=some (.tup ((zLx c).map kV)):=by
 obtain⟨T,rfl,hT⟩:=Dm.pair_inv h
 exact⟨T,rfl,hT⟩
noncomputable def NC(P:Program)(w:World)(B H:Hp)(d:Addr)(F:zBc->WData)(N:Nat):Prop:=∃L,H d=some (dN P w d L)/\L.length<=N/\∀e∈L,∃p,e.1=zGi p/\Dm B (.ref e.2.1) (zBt p)/\Dm B (.ref e.2.2) (F p)
section
variable {P:Program} {w:World} {B B' H H':Hp} {d:Addr} {F:zBc->WData} {N N':Nat}
theorem NC.mono(h:NC P w B H d F N)(e:Same B B')(hd:H' d=H d)(hN:N<=N'):NC P w B' H' d F N':=by
 obtain⟨L,h1,h2,h3⟩:=h
 refine⟨L,by rw[hd];exact h1,Nat.le_trans h2 hN,fun x hx=>?_⟩
 obtain⟨p,q1,q2,q3⟩:=h3 x hx
 exact⟨p,q1,q2.same e,q3.same e⟩
theorem NC.use(h:NC P w B H d F N)(sB:Same B H)(p:zBc):∃L,NDict P w H d L/\L.length<=N/\(∀v,zG5 L (zGi p)=some v->Dm B (.ref v) (F p))/\
  ∀B' H' b c,Same B B'->Dm B' (.ref b) (zBt p)->Dm B' (.ref c) (F p)->NC P w B' (L2.upd H' d (dN P w d (L++ [(zGi p,b,c)]))) d F (N+1):=by
 obtain⟨L,h1,h2,h3⟩:=h
 refine⟨L,⟨h1,fun e he=>?_⟩,h2,fun v hv=>?_,fun B' H' b c sB' hb hc=>⟨_,zAb,?_,fun e he=>?_⟩⟩
 ·obtain⟨q,e1,e2,_⟩:=h3 e he
  rw[e1]
  exact zMw (e2.same sB)
 ·unfold zG5 at hv
  obtain⟨e,he,e2⟩:=Option.map_eq_some_iff.mp hv
  have hk:=List.find?_some he
  have hm:=List.mem_of_find?_eq_some he
  obtain⟨q,q1,q2,q3⟩:=h3 e hm
  have:q=p:=zNy (q1.symm.trans (of_decide_eq_true hk))
  subst this
  rw[<-e2]
  exact q3
 ·rw[List.length_append]
  exact Nat.add_le_add_right h2 1
 ·rcases List.mem_append.mp he with he | he
  ·obtain⟨q,q1,q2,q3⟩:=h3 e he
   exact⟨q,q1,q2.same sB',q3.same sB'⟩
  ·rw[List.mem_singleton.mp he]
   exact⟨p,rfl,hb,hc⟩
theorem zJe{L:List (zKi×Addr×Addr)}{k:zKi}{b c:Addr}(h:zG5 L k=none):zG5 (L++ [(k,b,c)]) k=some c:=by
 unfold zG5 at h ⊢
 have h0:(L.find? fun e=>decide (e.1=k))=none:=by
  cases e:L.find? fun e=>decide (e.1=k)with
  | none=>rfl
  | some u=>rw[e]at h;cases h
 rw[List.find?_append,h0]
 simp
end
noncomputable def tF(p i o l r c:V):List (Str×V):=zA9 "fits" c (zA9 "rights" r (zA9 "lefts" l (zA9 "outcomes" o (zA9 "inputs" i (zA9 "program" p [])))))
section
variable (p i o l r c:V)
theorem yEv:(tF p i o l r c).lookup ("program":Str)=some p:=by kernel_rfl
theorem yA5:(tF p i o l r c).lookup ("inputs":Str)=some i:=by kernel_rfl
theorem yEw:(tF p i o l r c).lookup ("outcomes":Str)=some o:=by kernel_rfl
theorem zX9:(tF p i o l r c).lookup ("lefts":Str)=some l:=by kernel_rfl
theorem zYa:(tF p i o l r c).lookup ("rights":Str)=some r:=by kernel_rfl
theorem zYb:(tF p i o l r c).lookup ("fits":Str)=some c:=by kernel_rfl
theorem zJ6{m:Str}(h1:¬m= "fits")(h2:¬m= "rights")(h3:¬m= "lefts")(h4:¬m= "outcomes")(h5:¬m= "inputs")(h6:¬m= "program"):(tF p i o l r c).lookup m=none:=by
 unfold tF
 rw[zBr,if_neg h1,zBr,if_neg h2,zBr,if_neg h3,zBr,if_neg h4,zBr,if_neg h5,zBr,if_neg h6]
 rfl
end
structure zB6(K:PySem.W.Frag)(mg:Str->Option Value)(C fI fL fR fF fV fH fA:Addr):Prop where
 gl:mg "Trial" =some (.ref C)
 cl:Cls K C
 make:Mk K C fI
 n1:NoAttr K C "program"
 n2:NoAttr K C "inputs"
 n3:NoAttr K C "outcomes"
 n4:NoAttr K C "lefts"
 n5:NoAttr K C "rights"
 n6:NoAttr K C "fits"
 mL:zMj K C "left_sides" fL
 mR:zMj K C "right_sides" fR
 mF:zMj K C "fitting" fF
 mV:zMj K C "verdicts" fV
 mH:zMj K C "holds" fH
 mA:zMj K C "holds_all" fA
noncomputable def zOt(f:zBc)(xs:List zC0)(p:zBc):WData:= .list (xs.map fun x=>zKj (zFo f p x))
noncomputable def zOu(f:zBc)(xs:List zC0)(p:zBc):WData:= .list (xs.map fun x=>zKj (zE9 f p x))
noncomputable def zSk(xs:List zC0)(c:zDd):WData:= .list (xs.map fun x=> .bool (VametBase.fitsCond c x))
noncomputable def zTe(xs:List zC0):Prop:=(∀x∈xs,within x=true)/\xs.length<=150
structure TrIn(P:Program)(w:World)(CT:Addr)(S:List Addr)(H:Hp)(t la ra ca:Addr)(f:zBc)(xs:List zC0)(N:Nat):Prop where
 lr:la≠ra
 lc:la≠ca
 rc:ra≠ca
 ml:la∈S
 mr:ra∈S
 mc:ca∈S
 th:∀b∈S,(H b).isSome=true
 ob:∃dx vp vi vo,H t=some (.ins CT dx (tF vp vi vo (.ref la) (.ref ra) (.ref ca)))/\Dm (woS S H) vp (zBt f)/\Dm (woS S H) vi (.list (xs.map zCl))/\Dm (woS S H) vo (.list (xs.map fun x=>zKj (VametBase.run f x)))
 l:NC P w (woS S H) H la (zOt f xs) N
 r:NC P w (woS S H) H ra (zOu f xs) N
 c:∃C:List (List Key×V),H ca=some (.dT C)/\C.length<=N/\∀e∈C,∃c,e.1=zLx c/\Dm (woS S H) e.2 (zSk xs c)
section
variable {P:Program} {w:World} {CT:Addr} {S S':List Addr} {H H':Hp} {t la ra ca:Addr} {f:zBc} {xs:List zC0} {N N':Nat}
theorem TrIn.move(h:TrIn P w CT S H t la ra ca f xs N)(e:Same (woS S H) (woS S' H'))(et:H' t=H t)(el:H' la=H la)(er:H' ra=H ra)(ec:H' ca=H ca)(hs:∀b∈S,b∈S')(th:∀b∈S',(H' b).isSome=true)(hN:N<=N'):TrIn P w CT S' H' t la ra ca f xs N':=by
 obtain⟨dx,vp,vi,vo,h1,h2,h3,h4⟩:=h.ob
 obtain⟨C,c1,c2,c3⟩:=h.c
 refine⟨h.lr,h.lc,h.rc,hs _ h.ml,hs _ h.mr,hs _ h.mc,th,⟨dx,vp,vi,vo,by rw[et];exact h1,h2.same e,h3.same e,h4.same e⟩,h.l.mono e el hN,h.r.mono e er hN,C,by rw[ec];exact c1,Nat.le_trans c2 hN,fun x hx=>?_⟩
 obtain⟨c,q1,q2⟩:=c3 x hx
 exact⟨c,q1,q2.same e⟩
theorem Same.eq{H H':Hp}(e:Same H H'){b:Addr}(h:(H b).isSome=true):H' b=H b:=by
 obtain⟨o,q⟩:=Option.isSome_iff_exists.mp h
 rw[e _ _ q,q]
theorem TrIn.st(h:TrIn P w CT S H t la ra ca f xs N):(H t).isSome=true:=by obtain⟨_,_,_,_,e,_⟩:=h.ob;rw[e];rfl
theorem TrIn.same(h:TrIn P w CT S H t la ra ca f xs N)(e:Same H H'):TrIn P w CT S H' t la ra ca f xs N:=
 h.move (Same.woS e) (Same.eq e h.st) (Same.eq e (h.th _ h.ml)) (Same.eq e (h.th _ h.mr)) (Same.eq e (h.th _ h.mc)) (fun _ m=>m) (fun b m=>Same.th e (h.th b m)) (Nat.le_refl _)
theorem TrIn.mono(h:TrIn P w CT S H t la ra ca f xs N)(hN:N<=N'):TrIn P w CT S H t la ra ca f xs N':=h.move (Same.refl _) rfl rfl rfl rfl (fun _ m=>m) h.th hN
theorem TrIn.more(h:TrIn P w CT S H t la ra ca f xs N){D:Addr}{o:HO}(hD:H D=none):TrIn P w CT (D::S) (upd H D o) t la ra ca f xs N:=by
 have ne:∀b,(H b).isSome=true->b≠D:=fun b hb z=>by rw[z,hD]at hb;cases hb
 refine h.move (fun b u e=>?_) (zAj (ne _ h.st)) (zAj (ne _ (h.th _ h.ml))) (zAj (ne _ (h.th _ h.mr))) (zAj (ne _ (h.th _ h.mc))) (fun b m=>List.mem_cons_of_mem _ m) (fun b m=>?_) (Nat.le_refl _)
 ·obtain⟨e,n⟩:=zEt e
  have hb:b≠D:=fun z=>by rw[z,hD]at e;cases e
  rw[zF4 (fun m=>(List.mem_cons.mp m).elim hb n),zAj hb]
  exact e
 ·rcases List.mem_cons.mp m with m | m
  ·rw[m,zAb];rfl
  ·rw[zAj (ne _ (h.th b m))];exact h.th b m
theorem TrIn.chg(h:TrIn P w CT S H t la ra ca f xs N){D:Addr}{o:HO}{ys:List V}(mD:D∈S)(hD:H D=some (.lst ys)):TrIn P w CT S (upd H D o) t la ra ca f xs N:=by
 obtain⟨_,_,_,_,e1,_⟩:=h.ob
 obtain⟨_,e2,_⟩:=h.l
 obtain⟨_,e3,_⟩:=h.r
 obtain⟨_,e4,_⟩:=h.c
 refine h.move (fun b u e=>?_) (zAj (zEw e1 hD (by intro z;cases z))) (zAj (zEw e2 hD (by intro z;cases z))) (zAj (zEw e3 hD (by intro z;cases z))) (zAj (zEw e4 hD (by intro z;cases z))) (fun b m=>m) (fun b m=>?_) (Nat.le_refl _)
 ·obtain⟨e,n⟩:=zEt e
  rw[zF4 n,zAj (fun(z:b=D)=>n (by rw[z];exact mD))]
  exact e
 ·by_cases z:b=D
  ·rw[z,zAb];rfl
  ·rw[zAj z];exact h.th b m
end
open VametBase (within)
theorem zDs:∀(p:zBc) {l x:zC0},within l=true->VametBase.run p l=some x->within x=true
 | [],l,x,h,e=>by
  have e:some l=some x:=e
  rw[<-Option.some.inj e];exact h
 | s::p,l,x,h,e=>by
  have e:(if within (VametBase.done s l)then VametBase.run p (VametBase.done s l)else none)=some x:=e
  by_cases q:within (VametBase.done s l)=true
  ·rw[if_pos q]at e;exact zDs p q e
  ·rw[if_neg q]at e;cases e
theorem zLy(xs:List zC0):xs.map zCl=(xs.map some).map zKj:=by
 rw[List.map_map];rfl
section
variable {P:Program} {w:World} {K:PySem.W.Frag} {mg:Str->Option Value} {base:Heap} {CT fT fL fR fF fV fH fA:Addr}
noncomputable abbrev s70(i:Nat):Stmt:=zBk (top 109) i
theorem zZd:zAg ["self","program","inputs"] ["self","program","inputs"] (zAc (s70 0)):= fsc
noncomputable def zVb(P:Program)(w:World)(CT:Addr):Sp:=fun vs H Q _=>∃(p dx:Addr) (vp vi:V) (A:Hp) (f:zBc) (xs:List zC0),vs= [.ref p,vp,vi]/\H p=some (.ins CT dx [])/\Same A H/\A p=none/\Dm A vp (zBt f)/\Dm A vi (.list (xs.map zCl))/\zBy f/\zTe xs/\
 ∀H' la ra ca,Keep p H H'->H la=none->H ra=none->H ca=none->TrIn P w CT [la,ra,ca] H' p la ra ca f xs 0->Q .non H'
theorem zZe{f2:Addr}(F:∃fd,Fun K "__init__" "Trial.__init__" (s70 0) fT fd)(B:zB6 K mg CT fT fL fR fF fV fH fA)
  (m2:mg "run_on_each" =some (.ref f2)) (C2:L2.Callee P w K mg base 3 f2 ["program","outcomes"] (zAx zSa)):
  L2.Callee P w K mg base 4 fT ["self","program","inputs"] (zVb P w CT):=by
 refine Fun.callee0 F zZd (fun vs H Q E h=>?_) (fun _ _ _ _ _ _=>b3 fun _ _ _=>rfl) (fun cdv A outer s H vs Q E hr h=>?_)
 ·obtain⟨_,_,_,_,_,_,_,rfl,_⟩:=h
  rfl
 ·obtain⟨p,dx,vp,vi,Ar,f,xs,rfl,hp,sA,hAp,dp,di,okp,okx,k⟩:=h
  refine⟨_,zAe (zBn (pv 0) (pv 1) rfl) (zAe (zBn (pv 0) (pv 2) rfl)
   (zAe (zBn (pv 0) (zAh (E:=E0) C2 hr (by rfl) m2 zAm (zAa (pv 1) (zAa (pv 2) zAd))) rfl)
   (zAe (zBn (tv:=zQa P w) (pv 0) zNm rfl) (zAe (zBn (tv:=zQa P w) (pv 0) zNm rfl) (zAf (zBn (pv 0) zRx rfl)))))),?_⟩
  have hHp:(H p).isSome=true:=by rw[hp];rfl
  refine (zq rfl (zq rfl ⟨p,CT,dx,[],rfl,hp,B.cl,B.n1,(by show 0 < 1000;decide),?_⟩))
  refine (zq rfl (zq rfl ⟨p,CT,dx,(zq rfl ⟨zAb,B.cl,B.n2,(by show 1 < 1000;decide),?_⟩)⟩))
  rw[zBh]
  generalize hG:upd H p (.ins CT dx (zA9 "inputs" vi (zA9 "program" vp [])))=H1
  have k1:Keep p H H1:=by rw[<-hG];exact Keep.upd hHp
  have p1:H1 p=some (.ins CT dx (zA9 "inputs" vi (zA9 "program" vp []))):=by rw[<-hG];exact zAb
  have s1:Same Ar H1:=k1.inA sA hAp
  clear hG
  refine (zq rfl (zq rfl ⟨Ar,_,_,s1,.cons dp (.cons di .nil),⟨f,xs.map some,by rw[zLy],okp,(fun l hl=>?_),(by rw[List.length_map];have:=okx.2;omega),rfl⟩,fun H2 vo e2 do_=>?_⟩))
  ·obtain⟨x,hx,e⟩:=List.mem_map.mp hl
   cases e
   exact okx.1 _ hx
  refine (zq rfl ⟨p,CT,dx,(zq rfl ⟨e2 _ _ p1,B.cl,B.n3,Nat.lt_of_le_of_lt (zAt _ _ _) (by show 2 < 1000;decide),?_⟩)⟩)
  have s2:=s1.trans e2
  have do2:Dm (mix Ar H H2) vo (.list ((xs.map some).map fun o=>zKj (o.bind (VametBase.run f)))):=do_.same (k1.mixD sA)
  generalize hG:upd H2 p (.ins CT dx (zA9 "outcomes" vo (zA9 "inputs" vi (zA9 "program" vp []))))=H3
  have k23:Keep p H2 H3:=by rw[<-hG];exact Keep.upd (by rw[e2 _ _ p1];rfl)
  have p3:H3 p=some (.ins CT dx (zA9 "outcomes" vo (zA9 "inputs" vi (zA9 "program" vp [])))):=by rw[<-hG];exact zAb
  have k3:=(k1.trans (Keep.of e2)).trans k23
  have do3:=do2.same (k23.mixA hHp)
  clear hG
  intro la hla
  have nl:la≠p:=fun z=>by rw[z,p3]at hla;cases hla
  refine (zq rfl ⟨p,CT,dx,(zq rfl ⟨(by rw[zAj (Ne.symm nl)];exact p3),B.cl,B.n4,Nat.lt_of_le_of_lt (zAt _ _ _) (by have:=zAt "inputs" vi (zA9 "program" vp []);show _+1 < 1000;have h1:(zA9 "program" vp ([]:List (Str×V))).length=1:=rfl;omega),?_⟩)⟩)
  generalize hG:upd (upd H3 la (dN P w la [])) p (.ins CT dx (zA9 "lefts" (.ref la) (zA9 "outcomes" vo (zA9 "inputs" vi (zA9 "program" vp [])))))=H4
  have k34:Keep p H3 H4:=by rw[<-hG];exact(Keep.of (Same.upd hla)).trans (Keep.upd (by rw[zAj (Ne.symm nl),p3];rfl))
  have p4:H4 p=some (.ins CT dx (zA9 "lefts" (.ref la) (zA9 "outcomes" vo (zA9 "inputs" vi (zA9 "program" vp []))))):=by rw[<-hG];exact zAb
  have a4:H4 la=some (dN P w la []):=by rw[<-hG,zAj nl];exact zAb
  clear hG
  intro ra hra
  have nr:ra≠p:=fun z=>by rw[z,p4]at hra;cases hra
  have lr:la≠ra:=fun z=>by rw[<-z,a4]at hra;cases hra
  refine (zq rfl ⟨p,CT,dx,(zq rfl ⟨(by rw[zAj (Ne.symm nr)];exact p4),B.cl,B.n5,Nat.lt_of_le_of_lt (zAt _ _ _) (by have h2:=zAt "inputs" vi (zA9 "program" vp []);have h3:=zAt "outcomes" vo (zA9 "inputs" vi (zA9 "program" vp []));show _+1 < 1000;have h1:(zA9 "program" vp ([]:List (Str×V))).length=1:=rfl;omega),?_⟩)⟩)
  generalize hG:upd (upd H4 ra (dN P w ra [])) p (.ins CT dx (zA9 "rights" (.ref ra) (zA9 "lefts" (.ref la) (zA9 "outcomes" vo (zA9 "inputs" vi (zA9 "program" vp []))))))=H5
  have k45:Keep p H4 H5:=by rw[<-hG];exact(Keep.of (Same.upd hra)).trans (Keep.upd (by rw[zAj (Ne.symm nr),p4];rfl))
  have p5:H5 p=some (.ins CT dx (zA9 "rights" (.ref ra) (zA9 "lefts" (.ref la) (zA9 "outcomes" vo (zA9 "inputs" vi (zA9 "program" vp [])))))):=by rw[<-hG];exact zAb
  have b5:H5 ra=some (dN P w ra []):=by rw[<-hG,zAj nr];exact zAb
  have a5:H5 la=some (dN P w la []):=k45.1 _ _ a4 nl
  clear hG
  intro ca hca
  have nc:ca≠p:=fun z=>by rw[z,p5]at hca;cases hca
  have lc:la≠ca:=fun z=>by rw[<-z,a5]at hca;cases hca
  have rc:ra≠ca:=fun z=>by rw[<-z,b5]at hca;cases hca
  refine (zq rfl ⟨p,CT,dx,(zq rfl ⟨(by rw[zAj (Ne.symm nc)];exact p5),B.cl,B.n6,Nat.lt_of_le_of_lt (zAt _ _ _) (by have h2:=zAt "inputs" vi (zA9 "program" vp []);have h3:=zAt "outcomes" vo (zA9 "inputs" vi (zA9 "program" vp []));have h4:=zAt "lefts" (.ref la) (zA9 "outcomes" vo (zA9 "inputs" vi (zA9 "program" vp [])));show _+1 < 1000;have h1:(zA9 "program" vp ([]:List (Str×V))).length=1:=rfl;omega),?_⟩)⟩)
  generalize hG:upd (upd H5 ca (.dT [])) p (.ins CT dx (zA9 "fits" (.ref ca) (zA9 "rights" (.ref ra) (zA9 "lefts" (.ref la) (zA9 "outcomes" vo (zA9 "inputs" vi (zA9 "program" vp [])))))))=H6
  have k56:Keep p H5 H6:=by rw[<-hG];exact(Keep.of (Same.upd hca)).trans (Keep.upd (by rw[zAj (Ne.symm nc),p5];rfl))
  have p6:H6 p=some (.ins CT dx (tF vp vi vo (.ref la) (.ref ra) (.ref ca))):=by rw[<-hG];exact zAb
  have c6:H6 ca=some (.dT []):=by rw[<-hG,zAj nc];exact zAb
  have a6:H6 la=some (dN P w la []):=k56.1 _ _ a5 nl
  have b6:H6 ra=some (dN P w ra []):=k56.1 _ _ b5 nr
  clear hG
  have k36:=(k34.trans k45).trans k56
  have k6:=k3.trans k36
  have fl:H la=none:=k3.free hla
  have fr:H ra=none:=(k3.trans k34).free hra
  have fc:H ca=none:=((k3.trans k34).trans k45).free hca
  have s6:Same Ar H6:=k6.inA sA hAp
  have nn:∀b,H b=none->Ar b=none:=fun b hb=>by
   cases q:Ar b with
   | none=>rfl
   | some u=>rw[sA _ _ q]at hb;cases hb
  have in3:∀{Pr:Addr->Prop},Pr la->Pr ra->Pr ca->∀b∈[la,ra,ca],Pr b:=fun h1 h2 h3 b hb=>by
   simp only [List.mem_cons,List.not_mem_nil,or_false]at hb
   rcases hb with rfl | rfl | rfl <;> assumption
  have w6:Same Ar (woS [la,ra,ca] H6):=zLw s6 (in3 (nn _ fl) (nn _ fr) (nn _ fc))
  refine k H6 la ra ca k6 fl fr fc ⟨lr,lc,rc,(by simp),(by simp),(by simp),in3 (by rw[a6];rfl) (by rw[b6];rfl) (by rw[c6];rfl),⟨dx,vp,vi,vo,p6,dp.same w6,di.same w6,?_⟩,⟨[],a6,Nat.le_refl _,fun _ h=>nomatch h⟩,⟨[],b6,Nat.le_refl _,fun _ h=>nomatch h⟩,[],c6,Nat.le_refl _,fun _ h=>nomatch h⟩
  have:Same (mix Ar H H3) (woS [la,ra,ca] H6):=fun b o e=>by
   have e6:H6 b=some o:=k6.mixI sA hAp b o (k36.mixA hHp b o e)
   have hb:∀d,(H d=none/\H3 d=none)->b≠d:=fun d ⟨q0,q1⟩ z=>by
    subst z
    rw[zA7 q0,q1]at e
    cases e
   rw[zF4 (fun m=>in3 (Pr:=fun d=>b≠d) (hb la ⟨fl,hla⟩) (hb ra ⟨fr,k34.free hra⟩) (hb ca ⟨fc,(k34.trans k45).free hca⟩) b m rfl)]
   exact e6
  have z:=do3.same this
  rw[List.map_map]at z
  exact z
end
open VametBase (within)
section
variable {P:Program} {w:World} {CT:Addr} {S:List Addr} {H:Hp} {t la ra ca:Addr} {f:zBc} {xs:List zC0} {N:Nat}
theorem zJ7{d:Addr}{o:HO}(m:d∈S):Same (woS S H) (woS S (upd H d o)):=fun b u e=>by
 obtain⟨e,n⟩:=zEt e
 rw[zF4 n,zAj (fun(z:b=d)=>n (by rw[z];exact m))]
 exact e
theorem zQn{d:Addr}{o:HO}(h:∀b∈S,(H b).isSome=true):∀b∈S,(upd H d o b).isSome=true:=fun b m=>by
 by_cases z:b=d
 ·rw[z,zAb];rfl
 ·rw[zAj z];exact h b m
theorem TrIn.putL(h:TrIn P w CT S H t la ra ca f xs N){ob:HO}(hl:NC P w (woS S H) (upd H la ob) la (zOt f xs) (N+1)):TrIn P w CT S (upd H la ob) t la ra ca f xs (N+1):=by
 have e:=zJ7 (H:=H) (o:=ob) h.ml
 obtain⟨dx,vp,vi,vo,h1,h2,h3,h4⟩:=h.ob
 obtain⟨C,c1,c2,c3⟩:=h.c
 obtain⟨L,l1,_⟩:=id h.l
 refine⟨h.lr,h.lc,h.rc,h.ml,h.mr,h.mc,zQn h.th,⟨dx,vp,vi,vo,(by rw[zAj (zEw h1 l1 (by intro z;cases z))];exact h1),h2.same e,h3.same e,h4.same e⟩,hl.mono e rfl (Nat.le_refl _),h.r.mono e (zAj (Ne.symm h.lr)) (Nat.le_succ _),C,(by rw[zAj (Ne.symm h.lc)];exact c1),Nat.le_succ_of_le c2,fun x hx=>?_⟩
 obtain⟨c,q1,q2⟩:=c3 x hx
 exact⟨c,q1,q2.same e⟩
theorem TrIn.putR(h:TrIn P w CT S H t la ra ca f xs N){ob:HO}(hl:NC P w (woS S H) (upd H ra ob) ra (zOu f xs) (N+1)):TrIn P w CT S (upd H ra ob) t la ra ca f xs (N+1):=by
 have e:=zJ7 (H:=H) (o:=ob) h.mr
 obtain⟨dx,vp,vi,vo,h1,h2,h3,h4⟩:=h.ob
 obtain⟨C,c1,c2,c3⟩:=h.c
 obtain⟨L,l1,_⟩:=id h.r
 refine⟨h.lr,h.lc,h.rc,h.ml,h.mr,h.mc,zQn h.th,⟨dx,vp,vi,vo,(by rw[zAj (zEw h1 l1 (by intro z;cases z))];exact h1),h2.same e,h3.same e,h4.same e⟩,h.l.mono e (zAj h.lr) (Nat.le_succ _),hl.mono e rfl (Nat.le_refl _),C,(by rw[zAj (Ne.symm h.rc)];exact c1),Nat.le_succ_of_le c2,fun x hx=>?_⟩
 obtain⟨c,q1,q2⟩:=c3 x hx
 exact⟨c,q1,q2.same e⟩
end
noncomputable def zN0(P:Program)(w:World)(CT:Addr)(F:zBc->List zC0->zBc->WData):Sp:=fun vs H Q _=>∃(S:List Addr) (t la ra ca:Addr) (v:V) (f:zBc) (xs:List zC0) (N:Nat) (p:zBc),vs= [.ref t,v]/\TrIn P w CT S H t la ra ca f xs N/\Dm (woS S H) v (zBt p)/\zBy p/\zBy f/\zTe xs/\N<=90000/\
 ∀H' v',Keep3 la ra ca H H'->TrIn P w CT S H' t la ra ca f xs (N+1)->Dm (woS S H') v' (F f xs p)->Q v' H'
section
variable {P:Program} {w:World} {K:PySem.W.Frag} {mg:Str->Option Value} {base:Heap} {CT fT fL fR fF fV fH fA:Addr}
theorem zZf:zAg ["self","turning"] ["self","turning"] (zAc (s70 1)):= fsc
theorem zZg:zAg ["self","turning"] ["self","turning"] (zAc (s70 2)):= fsc
theorem zZh:zAg ["self","condition"] ["self","condition"] (zAc (s70 3)):= fsc
theorem zN1{H:Hp}{v:V}{p:zBc}(h:Dm H v (zBt p)):∃b,v= .ref b:=by
 obtain⟨b,_,rfl,_⟩:=Dm.tup_inv (ds:=p.map zEl) h
 exact⟨b,rfl⟩
theorem zZi{f2:Addr}(F:∃fd,Fun K "left_sides" "Trial.left_sides" (s70 1) fL fd)(B:zB6 K mg CT fT fL fR fF fV fH fA)
  (m2:mg "run_on_each" =some (.ref f2)) (C2:L2.Callee P w K mg base 3 f2 ["program","outcomes"] (zAx zSa)):
  L2.Callee P w K mg base 4 fL ["self","turning"] (zN0 P w CT zOt):=by
 refine Fun.callee0 F zZf (fun vs H Q E h=>?_) (fun _ _ _ _ _ _=>b2 fun _ _=>rfl) (fun cdv A outer s H vs Q E hr h=>?_)
 ·obtain⟨_,_,_,_,_,_,_,_,_,_,rfl,_⟩:=h
  rfl
 ·obtain⟨S,t,la,ra,ca,v,f,xs,N,p,rfl,hT,dv,okp,okf,okx,hN,k⟩:=h
  obtain⟨b,rfl⟩:=zN1 dv
  have x150:=okx.2
  refine⟨_,zAe (zCk (zPd (t:=zMs P w (zFq 1) (zX4 K (zFq 0) "lefts")) (zLk hr.units (pv 1) (zAl (pv 0) rfl)) (by with_unfolding_all rfl))
    (zAf (zQc hr.units (zAl (pv 0) rfl) (pv 1) (zAh (E:=E0) C2 hr (by rfl) m2 zAm (zAa (zAl (pv 0) rfl) (zAa (zAh (E:=E0) C2 hr (by rfl) m2 zAm (zAa (pv 1) (zAa (zAl (pv 0) rfl) zAd))) zAd))) (by rfl))) zA5)
   (zAf (zAi (zQb hr.units (zAl (pv 0) rfl) (pv 1) (fun _ _=>rfl)))),?_⟩
  obtain⟨dx,vp,vi,vo,h1,h2,h3,h4⟩:=id hT.ob
  obtain⟨L,hd,hLN,hlook,hput⟩:=hT.l.use woS_same p
  have hbk:NestAt H b (zGi p):=(zMw dv).same woS_same
  refine (zq rfl (zq rfl (zf h1 B.cl B.n4 (zX9 _ _ _ _ _ _) ⟨la,L,b,zGi p,rfl,rfl,hd,hbk,(zq rfl ?_)⟩)))
  cases hl:zG5 L (zGi p)with
  | some c=>
   refine zG3 ?_
   refine (zq rfl (zf h1 B.cl B.n4 (zX9 _ _ _ _ _ _) (zq rfl ⟨la,L,b,zGi p,c,rfl,rfl,hd,hbk,hl,?_⟩)))
   exact k H _ (Keep3.refl _ _ _ H) (hT.mono (Nat.le_succ _)) (hlook c hl)
  | none=>
   refine zE6 ?_
   refine (zq rfl (zf h1 B.cl B.n1 (yEv _ _ _ _ _ _) (zq rfl (zq rfl (zf h1 B.cl B.n2 (yA5 _ _ _ _ _ _) ⟨woS S H,_,_,woS_same,.cons dv (.cons h3 .nil),⟨p,xs.map some,by rw[zLy],okp,(fun l hl=>?_),(by rw[List.length_map];omega),rfl⟩,fun H1 v1 e1 d1=>?_⟩)))))
   ·obtain⟨x,hx,e⟩:=List.mem_map.mp hl
    cases e
    exact okx.1 _ hx
   have w1:=zJ4 e1 hT.th
   have d1':=d1.same w1
   have T1:=hT.same e1
   have k1:Keep3 la ra ca H H1:=Keep3.of e1
   refine⟨woS S H1,_,_,woS_same,.cons (h2.same (k1.wo hT.ml hT.mr hT.mc)) (.cons d1' .nil),⟨f,xs.map (VametBase.run p),?_,okf,(fun l hl=>?_),(by rw[List.length_map];omega),rfl⟩,fun H2 v2 e2 d2=>?_⟩
   ·rw[List.map_map,List.map_map];rfl
   ·obtain⟨x,hx,e⟩:=List.mem_map.mp hl
    exact zDs p (okx.1 _ hx) e
   have w2:=zJ4 e2 T1.th
   have T2:=T1.same e2
   have k2:Keep3 la ra ca H H2:=k1.trans (Keep3.of e2)
   have e12:=e1.trans e2
   have d2':Dm (woS S H2) v2 (zOt f xs p):=by
    have:=d2.same w2
    rw[List.map_map]at this
    exact this
   obtain⟨c,_,rfl,_⟩:=Dm.list_inv (ds:=xs.map fun x=>zKj (zFo f p x)) d2'
   have hd2:NDict P w H2 la L:=⟨e12 _ _ hd.1,fun e he=>(hd.2 e he).same e12⟩
   refine (zq rfl (zf (e12 _ _ h1) B.cl B.n4 (zX9 _ _ _ _ _ _) (zq rfl ⟨la,L,b,zGi p,c,rfl,rfl,rfl,hd2,hbk.same e12,hl,zEa (by omega),?_⟩)))
   have T3:=T2.putL (ob:=dN P w la (L++ [(zGi p,b,c)])) (hput _ H2 b c (k2.wo hT.ml hT.mr hT.mc) (dv.same (k2.wo hT.ml hT.mr hT.mc)) d2')
   have k3:Keep3 la ra ca H2 (upd H2 la (dN P w la (L++ [(zGi p,b,c)]))):=Keep3.upd (.inl rfl)
   have q1':upd H2 la (dN P w la (L++ [(zGi p,b,c)])) t=some (.ins CT dx (tF vp vi vo (.ref la) (.ref ra) (.ref ca))):=by
    rw[zAj (zEw (e12 _ _ h1) hd2.1 (by intro z;cases z))];exact e12 _ _ h1
   refine (zq rfl (zf q1' B.cl B.n4 (zX9 _ _ _ _ _ _) (zq rfl ⟨la,L++ [(zGi p,b,c)],b,zGi p,c,rfl,rfl,hd2.put (hbk.same e12),(hbk.same e12).upd hd2.1 (fun _ z=>by cases z),zJe hl,?_⟩)))
   exact k _ _ (k2.trans k3) T3 (d2'.same (k3.wo hT.ml hT.mr hT.mc))
theorem zZj{f2:Addr}(F:∃fd,Fun K "right_sides" "Trial.right_sides" (s70 2) fR fd)(B:zB6 K mg CT fT fL fR fF fV fH fA)
  (m2:mg "run_on_each" =some (.ref f2)) (C2:L2.Callee P w K mg base 3 f2 ["program","outcomes"] (zAx zSa)):
  L2.Callee P w K mg base 4 fR ["self","turning"] (zN0 P w CT zOu):=by
 refine Fun.callee0 F zZg (fun vs H Q E h=>?_) (fun _ _ _ _ _ _=>b2 fun _ _=>rfl) (fun cdv A outer s H vs Q E hr h=>?_)
 ·obtain⟨_,_,_,_,_,_,_,_,_,_,rfl,_⟩:=h
  rfl
 ·obtain⟨S,t,la,ra,ca,v,f,xs,N,p,rfl,hT,dv,okp,okf,okx,hN,k⟩:=h
  obtain⟨b,rfl⟩:=zN1 dv
  have x150:=okx.2
  refine⟨_,zAe (zCk (zPd (t:=zMs P w (zFq 1) (zX4 K (zFq 0) "rights")) (zLk hr.units (pv 1) (zAl (pv 0) rfl)) (by with_unfolding_all rfl))
    (zAf (zQc hr.units (zAl (pv 0) rfl) (pv 1) (zAh (E:=E0) C2 hr (by rfl) m2 zAm (zAa (pv 1) (zAa (zAl (pv 0) rfl) zAd))) (by rfl))) zA5)
   (zAf (zAi (zQb hr.units (zAl (pv 0) rfl) (pv 1) (fun _ _=>rfl)))),?_⟩
  obtain⟨dx,vp,vi,vo,h1,h2,h3,h4⟩:=id hT.ob
  obtain⟨L,hd,hLN,hlook,hput⟩:=hT.r.use woS_same p
  have hbk:NestAt H b (zGi p):=(zMw dv).same woS_same
  refine (zq rfl (zq rfl (zf h1 B.cl B.n5 (zYa _ _ _ _ _ _) ⟨ra,L,b,zGi p,rfl,rfl,hd,hbk,(zq rfl ?_)⟩)))
  cases hl:zG5 L (zGi p)with
  | some c=>
   refine zG3 ?_
   refine (zq rfl (zf h1 B.cl B.n5 (zYa _ _ _ _ _ _) (zq rfl ⟨ra,L,b,zGi p,c,rfl,rfl,hd,hbk,hl,?_⟩)))
   exact k H _ (Keep3.refl _ _ _ H) (hT.mono (Nat.le_succ _)) (hlook c hl)
  | none=>
   refine zE6 ?_
   refine (zq rfl (zq rfl (zf h1 B.cl B.n3 (yEw _ _ _ _ _ _) ⟨woS S H,_,_,woS_same,.cons dv (.cons h4 .nil),⟨p,xs.map (VametBase.run f),(by rw[List.map_map];rfl),okp,(fun l hl=>?_),(by rw[List.length_map];omega),rfl⟩,fun H2 v2 e12 d2=>?_⟩)))
   ·obtain⟨x,hx,e⟩:=List.mem_map.mp hl
    exact zDs f (okx.1 _ hx) e
   have w2:=zJ4 e12 hT.th
   have T2:=hT.same e12
   have k2:Keep3 la ra ca H H2:=Keep3.of e12
   have d2':Dm (woS S H2) v2 (zOu f xs p):=by
    have:=d2.same w2
    rw[List.map_map]at this
    exact this
   obtain⟨c,_,rfl,_⟩:=Dm.list_inv (ds:=xs.map fun x=>zKj (zE9 f p x)) d2'
   have hd2:NDict P w H2 ra L:=⟨e12 _ _ hd.1,fun e he=>(hd.2 e he).same e12⟩
   refine (zq rfl (zf (e12 _ _ h1) B.cl B.n5 (zYa _ _ _ _ _ _) (zq rfl ⟨ra,L,b,zGi p,c,rfl,rfl,rfl,hd2,hbk.same e12,hl,zEa (by omega),?_⟩)))
   have T3:=T2.putR (ob:=dN P w ra (L++ [(zGi p,b,c)])) (hput _ H2 b c (k2.wo hT.ml hT.mr hT.mc) (dv.same (k2.wo hT.ml hT.mr hT.mc)) d2')
   have k3:Keep3 la ra ca H2 (upd H2 ra (dN P w ra (L++ [(zGi p,b,c)]))):=Keep3.upd (.inr (.inl rfl))
   have q1':upd H2 ra (dN P w ra (L++ [(zGi p,b,c)])) t=some (.ins CT dx (tF vp vi vo (.ref la) (.ref ra) (.ref ca))):=by
    rw[zAj (zEw (e12 _ _ h1) hd2.1 (by intro z;cases z))];exact e12 _ _ h1
   refine (zq rfl (zf q1' B.cl B.n5 (zYa _ _ _ _ _ _) (zq rfl ⟨ra,L++ [(zGi p,b,c)],b,zGi p,c,rfl,rfl,hd2.put (hbk.same e12),(hbk.same e12).upd hd2.1 (fun _ z=>by cases z),zJe hl,?_⟩)))
   exact k _ _ (k2.trans k3) T3 (d2'.same (k3.wo hT.ml hT.mr hT.mc))
noncomputable def yA6(P:Program)(w:World)(CT:Addr):Sp:=fun vs H Q _=>∃(S:List Addr) (t la ra ca:Addr) (v:V) (f:zBc) (xs:List zC0) (N:Nat) (c:zDd),vs= [.ref t,v]/\TrIn P w CT S H t la ra ca f xs N/\Dm (woS S H) v (zDq c)/\zTe xs/\N<=90000/\
 ∀H' v',Keep3 la ra ca H H'->TrIn P w CT S H' t la ra ca f xs (N+1)->Dm (woS S H') v' (zSk xs c)->Q v' H'
theorem zSl{C:List (List Key×V)}{k:List Key}{v:V}(h:zFg C k=some v):(k,v)∈C:=by
 unfold zFg at h
 obtain⟨e,he,e2⟩:=Option.map_eq_some_iff.mp h
 have hk0:=List.find?_some he
 have hk:=of_decide_eq_true hk0
 have hm:=List.mem_of_find?_eq_some he
 rw[<-hk,<-e2]
 exact hm
theorem zZk{f1:Addr}(F:∃fd,Fun K "fitting" "Trial.fitting" (s70 3) fF fd)(B:zB6 K mg CT fT fL fR fF fV fH fA)
  (m1:mg "which_fit" =some (.ref f1)) (C1:L2.Callee P w K mg base 2 f1 ["condition","rows"] (zAx yAz)):
  L2.Callee P w K mg base 4 fF ["self","condition"] (yA6 P w CT):=by
 refine Fun.callee0 F zZh (fun vs H Q E h=>?_) (fun _ _ _ _ _ _=>b2 fun _ _=>rfl) (fun cdv A outer s H vs Q E hr h=>?_)
 ·obtain⟨_,_,_,_,_,_,_,_,_,_,rfl,_⟩:=h
  rfl
 ·obtain⟨S,t,la,ra,ca,v,f,xs,N,cd,rfl,hT,dv,okx,hN,k⟩:=h
  obtain⟨b,rfl,hb⟩:=zSj dv
  have hb:=woS_same _ _ hb
  have x150:=okx.2
  have x40:∀l∈xs,l.length<=40:=fun l hl=>zBg (okx.1 l hl)
  have hr2:Room 2 _:=hr.mono (by decide)
  refine⟨_,zAe (zCk (zPd (zPx (zMr hr) (pv 1) (zAl (pv 0) rfl)) (by with_unfolding_all rfl))
    (zAf (zMq (zMr hr) (zAl (pv 0) rfl) (pv 1) (zAh (E:=E0) C1 hr2 (by rfl) m1 zAm (zAa (pv 1) (zAa (zAl (pv 0) rfl) zAd))) (by rfl))) zA5)
   (zAf (zAi (zMp (zMr hr) (zAl (pv 0) rfl) (pv 1) (fun _ _=>rfl)))),?_⟩
  obtain⟨dx,vp,vi,vo,h1,h2,h3,h4⟩:=id hT.ob
  obtain⟨C,hC,hCN,hCe⟩:=id hT.c
  refine (zq rfl (zq rfl (zf h1 B.cl B.n6 (zYb _ _ _ _ _ _) ⟨ca,zFg C (zLx cd),rfl,.t hC hb,(zq rfl ?_)⟩)))
  cases hl:zFg C (zLx cd)with
  | some z=>
   refine zG3 ?_
   refine (zq rfl (zf h1 B.cl B.n6 (zYb _ _ _ _ _ _) (zq rfl ⟨ca,z,rfl,hl▸.t hC hb,?_⟩)))
   obtain⟨c',e1,e2⟩:=hCe _ (zSl hl)
   obtain rfl:=zNz e1
   exact k H _ (Keep3.refl _ _ _ H) (hT.mono (Nat.le_succ _)) e2
  | none=>
   refine zE6 ?_
   refine (zq rfl (zq rfl (zf h1 B.cl B.n2 (yA5 _ _ _ _ _ _) ⟨woS S H,_,_,woS_same,.cons dv (.cons h3 .nil),⟨cd,xs,rfl,x40,(by omega),rfl⟩,fun H2 v2 e2 d2=>?_⟩)))
   have w2:=zJ4 e2 hT.th
   have T2:=hT.same e2
   have k2:Keep3 la ra ca H H2:=Keep3.of e2
   have d2':Dm (woS S H2) v2 (zSk xs cd):=d2.same w2
   have ht2:=e2 _ _ h1
   have hC2:=e2 _ _ hC
   have hb2:=e2 _ _ hb
   refine (zq rfl (zf ht2 B.cl B.n6 (zYb _ _ _ _ _ _) (zq rfl ⟨ca,(zq rfl ⟨.t hC2 hb2 (zCg (by omega)),?_⟩)⟩)))
   have hnew:zG2 C (zLx cd) v2=C++ [(zLx cd,v2)]:=zJq v2 hl
   have k3:Keep3 la ra ca H2 (upd H2 ca (.dT (zG2 C (zLx cd) v2))):=Keep3.upd (.inr (.inr rfl))
   have q1':upd H2 ca (.dT (zG2 C (zLx cd) v2)) t=some (.ins CT dx (tF vp vi vo (.ref la) (.ref ra) (.ref ca))):=by
    rw[zAj (zEw ht2 hC2 (by intro z;cases z))];exact ht2
   have hb3:upd H2 ca (.dT (zG2 C (zLx cd) v2)) b=some (.tup ((zLx cd).map kV)):=by
    rw[zAj (zEw hb2 hC2 (by intro z;cases z))];exact hb2
   have T3:TrIn P w CT S (upd H2 ca (.dT (zG2 C (zLx cd) v2))) t la ra ca f xs (N+1):=by
    refine⟨hT.lr,hT.lc,hT.rc,hT.ml,hT.mr,hT.mc,zQn T2.th,⟨dx,vp,vi,vo,q1',(h2.same (k2.wo hT.ml hT.mr hT.mc)).same (k3.wo hT.ml hT.mr hT.mc),(h3.same (k2.wo hT.ml hT.mr hT.mc)).same (k3.wo hT.ml hT.mr hT.mc),(h4.same (k2.wo hT.ml hT.mr hT.mc)).same (k3.wo hT.ml hT.mr hT.mc)⟩,T2.l.mono (k3.wo hT.ml hT.mr hT.mc) (zAj hT.lc) (Nat.le_succ _),T2.r.mono (k3.wo hT.ml hT.mr hT.mc) (zAj hT.rc) (Nat.le_succ _),_,zAb,?_,fun e he=>?_⟩
    ·rw[hnew,List.length_append]
     exact Nat.add_le_add_right hCN 1
    ·rw[hnew]at he
     rcases List.mem_append.mp he with he | he
     ·obtain⟨c',q1,q2⟩:=hCe e he
      exact⟨c',q1,(q2.same (k2.wo hT.ml hT.mr hT.mc)).same (k3.wo hT.ml hT.mr hT.mc)⟩
     ·rw[List.mem_singleton.mp he]
      exact⟨cd,rfl,d2'.same (k3.wo hT.ml hT.mr hT.mc)⟩
   refine (zq rfl (zf q1' B.cl B.n6 (zYb _ _ _ _ _ _) (zq rfl ⟨ca,v2,rfl,?_,?_⟩)))
   ·have z:=DGet.t (k:=zLx cd) (zAb (H:=H2) (a:=ca) (o:= .dT (zG2 C (zLx cd) v2))) hb3
    rw[zRr,if_pos rfl]at z
    exact z
   ·exact k _ _ (k2.trans k3) T3 (d2'.same (k3.wo hT.ml hT.mr hT.mc))
end
open VametBase (within)
section
variable {P:Program} {w:World} {K:PySem.W.Frag} {mg:Str->Option Value} {base:Heap} {CF fF0 CR fR0 CT fT fL fR fF fV fH fA:Addr}
noncomputable def vOf(fit:Bool)(lo ro:Option zC0)(r:zO6):Int:=match fit,lo,ro with
 | true,some a,some b=>if VametBase.stands r a b then 0 else 1
 | _,_,_=>2
noncomputable def zWj(P:Program)(w:World)(K:PySem.W.Frag)(mg:Str->Option Value)(base:Heap):Sp:=fun vs H Q _=>∃(A:Hp) (fit:Bool) (l r:V) (lo ro:Option zC0) (rel:zO6) (f:Addr),vs= [.bl fit,l,r,.ref f]/\Same A H/\Dm A l (zKj lo)/\Dm A r (zKj ro)/\
 (∀x,lo=some x->x.length<=40)/\(∀x,ro=some x->x.length<=40)/\L2.Callee P w K mg base 2 f ["left","right"] (zAx (RWay (zBu rel)))/\∀H',Same H H'->Q (.int (vOf fit lo ro rel)) H'
noncomputable abbrev s69:Stmt:=top 108
theorem yEx:zAg ["is_fit","left","right","stands"] ["is_fit","left","right","stands"] (zAc s69):= fsc
theorem yEy{f:Addr}(F:DefAt K mg "verdict" s69 f)(c1:zDc mg "KEPT" 0)(c2:zDc mg "BROKEN" 1)(c3:zDc mg "OFF" 2):L2.Callee P w K mg base 3 f ["is_fit","left","right","stands"] (zWj P w K mg base):=by
 obtain⟨t1,c1⟩:=c1
 obtain⟨t2,c2⟩:=c2
 obtain⟨t3,c3⟩:=c3
 refine F.callee0 yEx (fun vs H Q E h=>?_) (fun _ _ _ _ _ _=>b4 fun _ _ _ _=>rfl) (fun cdv A outer s H vs Q E hr h=>?_)
 ·obtain⟨_,_,_,_,_,_,_,_,rfl,_⟩:=h
  rfl
 ·obtain⟨Ar,fit,l,r,lo,ro,rel,f1,rfl,sA,dl,dr,hlo,hro,C1,k⟩:=h
  refine⟨_,zAe (zCk (zJn (zE3 (zBb (pv 0) (fun _=>rfl))) (zJn (zA6 zIw (pv 1) zE2 (zA0 _)) (zHp (zA6 zIw (pv 2) zE2 (zA0 _))))).pt (zAf (zAi (zAr (v:= .int 2) (by rfl) c3 ⟨t3,rfl⟩))) zA5)
   (zAf (zAi (zDf (zBb (zEs (k:=2) (i:=3) (E:=E0) rfl (Or.inl rfl) hr zAm (zAa (pv 1) (zAa (pv 2) zAd))) (fun _=>rfl)) (zAr (v:= .int 0) (by rfl) c1 ⟨t1,rfl⟩) (zAr (v:= .int 1) (by rfl) c2 ⟨t2,rfl⟩)))),?_⟩
  refine (zq rfl (zq rfl ?_))
  cases fit with
  | false=>exact zE6 (zE6 (k H (Same.refl H)))
  | true=>
   refine zG3 (zq rfl ⟨rfl,(zq rfl ?_)⟩)
   cases lo with
   | none=>
    obtain rfl:=Dm.non_inv dl
    exact zE6 (zE6 (k H (Same.refl H)))
   | some x=>
    obtain⟨a,rfl,hxa⟩:=Dm.row_inv (l:=x) dl
    refine zG3 (zq rfl ⟨rfl,(zq rfl ?_)⟩)
    cases ro with
    | none=>
     obtain rfl:=Dm.non_inv dr
     exact zE6 (k H (Same.refl H))
    | some y=>
     obtain⟨b,rfl,hyb⟩:=Dm.row_inv (l:=y) dr
     refine zG3 ?_
     refine ⟨f1,_,(zq rfl ⟨C1,(zq rfl (zq rfl ⟨Ar,_,_,sA,.cons dl (.cons dr .nil),⟨x,y,rel,rfl,rfl,hlo x rfl,hro y rfl,rfl⟩,fun H2 v e2 dv=>?_⟩))⟩)⟩
     obtain rfl:=Dm.bl_inv dv
     have k2:=k H2 e2
     unfold vOf at k2
     dsimp only at k2
     refine (zq rfl (zD2 (fun z=>?_) fun z=>?_))
     ·rw[if_pos z]at k2;exact k2
     ·rw[if_neg z]at k2;exact k2
end
theorem zWk(f:zBc)(r:VametBase.Relation)(x:zC0):vOf (VametBase.fitsCond r.cond x) (zFo f r.input x) (zE9 f r.output x) r.rel=zQ7 (VametBase.verdict f r x):=by
 rw[zOb]
 unfold vOf
 cases VametBase.fitsCond r.cond x with
 | false=>rfl
 | true=>
  cases zFo f r.input x with
  | none=>rfl
  | some a=>
   cases zE9 f r.output x with
   | none=>rfl
   | some b=>
    dsimp only
    by_cases e:VametBase.stands r.rel a b=true
    ·rw[if_pos e,if_pos e];rfl
    ·rw[if_neg e,if_neg e];rfl
theorem zN2{f i:zBc}{x y:zC0}(hx:within x=true)(h:zFo f i x=some y):y.length<=40:=by
 unfold zFo at h
 cases e:VametBase.run i x with
 | none=>rw[e]at h;cases h
 | some z=>rw[e]at h;exact zBg (zDs f (zDs i hx e) h)
structure zTf(P:Program)(w:World)(K:PySem.W.Frag)(mg:Str->Option Value)(base:Heap)(aW:Addr)(fs:List Addr):Prop where
 gl:mg "WAYS" =some (.ref aW)
 tup:∀H:Hp,SqT K H aW (fs.map V.ref)
 len:fs.length=7
 ok:∀(i:Nat) f,fs[i]? =some f->L2.Callee P w K mg base 2 f ["left","right"] (zAx (RWay i))
theorem zLz(c:zO6):zBu c < 7:=by cases c <;> simp[zBu]
theorem zF5(n:Int)(l:List Int):inV (.int n) (l.map V.int)=decide (n∈l):=by
 unfold inV
 rw[List.any_map,Bool.eq_iff_iff,List.any_eq_true,decide_eq_true_iff]
 constructor
 ·rintro⟨x,hx,e⟩
  have e:(decide (x=n))=true:=by simpa [eqV]using e
  rw[<-of_decide_eq_true e];exact hx
 ·intro h
  exact⟨n,h,by simp[eqV]⟩
theorem zDb:∀l:List Int,(l.map V.int).all zFb=true
 | []=>rfl
 | x::l=>by
  show(zFb (.int x) && (l.map V.int).all zFb)=true
  rw[zDb l];rfl
theorem zQo{g:zH6}(h:zG7 g):(Vametc.candidates g).length<=336:=by
 obtain⟨h1,h2,h3,h4,_,_⟩:=h
 rw[zB4]
 have a1:=Nat.mul_le_mul h2 h3
 have a2:=Nat.mul_le_mul a1 h1
 have a3:=Nat.mul_le_mul a2 h4
 simpa [Nat.mul_assoc,Nat.mul_comm,Nat.mul_left_comm]using a3
section
variable {P:Program} {w:World} {K:PySem.W.Frag} {mg:Str->Option Value} {base:Heap} {CF fF0 CR fR0 CT fT fL fR fF fV fH fA:Addr}
noncomputable def zL0(r:VametBase.Relation):Prop:=zBy r.input/\zBy r.output
theorem sc704:zAg ["self","relation","fitting","lefts","rights","stands","is_fit","left","right"] ["self","relation"] (zAc (s70 4)):= fsc
noncomputable def zZl(P:Program)(w:World)(CR CT:Addr):Sp:=fun vs H Q _=>∃(S:List Addr) (t la ra ca:Addr) (v:V) (f:zBc) (xs:List zC0) (N:Nat) (r:VametBase.Relation),vs= [.ref t,v]/\TrIn P w CT S H t la ra ca f xs N/\RelAt CR (woS S H) v r/\zL0 r/\zBy f/\zTe xs/\N<=80000/\
 ∀H' v',Keep3 la ra ca H H'->TrIn P w CT S H' t la ra ca f xs (N+3)->Dm (mix A0 H H') v' (zCl (zAu f r xs))->Q v' H'
theorem zZm{f2 aW:Addr}{fs:List Addr}(F:∃fd,Fun K "verdicts" "Trial.verdicts" (s70 4) fV fd)(Bl:Blt mg)(B:zB6 K mg CT fT fL fR fF fV fH fA)(BR:zGy K mg CR fR0)(W:zTf P w K mg base aW fs)
  (CFt:L2.Callee P w K mg base 4 fF ["self","condition"] (yA6 P w CT)) (CL:L2.Callee P w K mg base 4 fL ["self","turning"] (zN0 P w CT zOt)) (CRt:L2.Callee P w K mg base 4 fR ["self","turning"] (zN0 P w CT zOu))
  (m2:mg "verdict" =some (.ref f2)) (C2:L2.Callee P w K mg base 3 f2 ["is_fit","left","right","stands"] (zWj P w K mg base)):L2.Callee P w K mg base 5 fV ["self","relation"] (zZl P w CR CT):=by
 refine Fun.callee0 F sc704 (fun vs H Q E h=>?_) (fun _ _ _ _ _ _=>b2 fun _ _=>rfl) (fun cdv A outer s H vs Q E hr h=>?_)
 ·obtain⟨_,_,_,_,_,_,_,_,_,_,rfl,_⟩:=h
  rfl
 ·obtain⟨S,t,la,ra,ca,v,f,xs,N,r,rfl,hT,hRl,okr,okf,okx,hN,k⟩:=h
  obtain⟨ve,vdx,c0,i0,o0,rfl,hve,dc,di,do_⟩:=id hRl
  obtain⟨f3,hf3⟩:∃f3,fs[zBu r.rel]? =some f3:=⟨_,List.getElem?_eq_getElem (by rw[W.len];exact zLz r.rel)⟩
  have hr3:Room 3 _:=hr.mono (by decide)
  refine⟨_,zAe (zAq (i:=2) sc704.nd rfl (Or.inl rfl) (zBq (E:=E0) (pv 0) B.cl B.mF CFt hr zAm (zAa (zAl (pv 1) rfl) zAd)))
   (zAe (zAq (i:=3) sc704.nd rfl (Or.inl rfl) (zBq (E:=E0) (pv 0) B.cl B.mL CL hr zAm (zAa (zAl (pv 1) rfl) zAd)))
   (zAe (zAq (i:=4) sc704.nd rfl (Or.inl rfl) (zBq (E:=E0) (pv 0) B.cl B.mR CRt hr zAm (zAa (zAl (pv 1) rfl) zAd)))
   (zAe (zAq (i:=5) sc704.nd rfl (Or.inr rfl) (zBi zBx (zAr (v:= .ref aW) (by rfl) W.gl rfl) (zAl (pv 1) rfl) (fun _ _=>rfl)))
   (zAf (zAi (zEh (own:=[("is_fit",6),("left",7),("right",8)]) (g:=zX2 K 3 (zKv (zEx 6) (zKv (zEx 7) (zKv (zEx 8) zX1)))) rfl sc704.nd (zUq (by rfl) Bl.zip (zAa (pv 2) (zAa (pv 3) (zAa (pv 4) zAd))))
    (show zCf ["self","relation","fitting","lefts","rights","stands","is_fit","left","right"] (zAc (s70 4)) _ [("is_fit",6),("left",7),("right",8)]from bok)
    (fun s H C cl fp=>zKw (n:=3) rfl (zCn (zAv (i:=6) sc704.nd rfl (Or.inl rfl) (Or.inr rfl)) (zCn (zAv (i:=7) sc704.nd rfl (Or.inl rfl) (Or.inr rfl)) (zCn (zAv (i:=8) sc704.nd rfl (Or.inl rfl) (Or.inr rfl)) zHq))))
    (fun s H C cl fp=>zB2)
    (fun s H C cl fp=>zAh (E:=E0) C2 hr3 (by rfl) m2 zAm (zAa (pv 6) (zAa (pv 7) (zAa (pv 8) (zAa (pv 5) zAd))))))))))),?_⟩
  have tno:∀{m:Str} {vp vi vo:V},¬m= "fits"->¬m= "rights"->¬m= "lefts"->¬m= "outcomes"->¬m= "inputs"->¬m= "program"->(tF vp vi vo (.ref la) (.ref ra) (.ref ca)).lookup m=none:=fun a b c d e g=>zJ6 _ _ _ _ _ _ a b c d e g
  obtain⟨dx,vp,vi,vo,ht,_⟩:=id hT.ob
  have hve0:=woS_same _ _ hve
  refine (zq rfl ⟨t,dx,(zq rfl ⟨ht,tno (by decide +kernel) (by decide +kernel) (by decide +kernel) (by decide +kernel) (by decide +kernel) (by decide +kernel),(zq rfl (zf hve0 BR.cl BR.n1 (zSe _ _ _ _) ⟨S,t,la,ra,ca,_,f,xs,N,r.cond,rfl,hT,dc,okx,(by omega),fun H1 v1 k1 T1 d1=>?_⟩))⟩)⟩)
  have w1:=k1.wo (S:=S) hT.ml hT.mr hT.mc
  obtain⟨dx1,vp1,vi1,vo1,ht1,_⟩:=id T1.ob
  have hve1:=woS_same _ _ (w1 _ _ hve)
  refine (zq rfl ⟨t,dx1,(zq rfl ⟨ht1,tno (by decide +kernel) (by decide +kernel) (by decide +kernel) (by decide +kernel) (by decide +kernel) (by decide +kernel),(zq rfl (zf hve1 BR.cl BR.n2 (zSf _ _ _ _) ⟨S,t,la,ra,ca,_,f,xs,N+1,r.input,rfl,T1,di.same w1,okr.1,okf,okx,(by omega),fun H2 v2 k2 T2 d2=>?_⟩))⟩)⟩)
  have w2:=k2.wo (S:=S) hT.ml hT.mr hT.mc
  have w12:=w1.trans w2
  obtain⟨dx2,vp2,vi2,vo2,ht2,_⟩:=id T2.ob
  have hve2:=woS_same _ _ (w12 _ _ hve)
  refine (zq rfl ⟨t,dx2,(zq rfl ⟨ht2,tno (by decide +kernel) (by decide +kernel) (by decide +kernel) (by decide +kernel) (by decide +kernel) (by decide +kernel),(zq rfl (zf hve2 BR.cl BR.n4 (zSh _ _ _ _) ⟨S,t,la,ra,ca,_,f,xs,N+2,r.output,rfl,T2,do_.same w12,okr.2,okf,okx,(by omega),fun H3 v3 k3 T3 d3=>?_⟩))⟩)⟩)
  have w3:=k3.wo (S:=S) hT.ml hT.mr hT.mc
  have hve3:=woS_same _ _ ((w12.trans w3) _ _ hve)
  refine (zq rfl (zf hve3 BR.cl BR.n3 (zSg _ _ _ _) ⟨aW,_,_,(zq rfl ⟨rfl,W.tup _,zAw (v:=V.ref f3) (by rw[List.getElem?_map,hf3];rfl),?_⟩)⟩))
  have k13:=(k1.trans k2).trans k3
  have d1':Dm H3 v1 (zSk xs r.cond):=d1.same ((w2.trans w3).trans woS_same)
  have d2':Dm H3 v2 (zOt f xs r.input):=d2.same (w3.trans woS_same)
  have d3':Dm H3 v3 (zOu f xs r.output):=d3.same woS_same
  obtain⟨fit,fx,rfl,hfit,hfx⟩:=Dm.list_inv (ds:=xs.map fun x=> .bool (VametBase.fitsCond r.cond x)) d1'
  obtain⟨lea,lx,rfl,hle,hlx⟩:=Dm.list_inv (ds:=xs.map fun x=>zKj (zFo f r.input x)) d2'
  obtain⟨ria,rx,rfl,hri,hrx⟩:=Dm.list_inv (ds:=xs.map fun x=>zKj (zE9 f r.output x)) d3'
  have nf:fx.length=xs.length:=by rw[hfx.length,List.length_map]
  have nl:lx.length=xs.length:=by rw[hlx.length,List.length_map]
  have nr:rx.length=xs.length:=by rw[hrx.length,List.length_map]
  refine (zq rfl (zq rfl (zq rfl ⟨fit,lea,ria,_,_,(zq rfl ⟨SqL.of hfit,SqL.of hle,SqL.of hri,fun D hD=>?_⟩)⟩)))
  have vl:(zAu f r xs).length=xs.length:=by unfold zAu;rw[List.length_map]
  refine zUr (xs:=fx) (ys:=lx) (zs:=rx) (fun j H'=>Same H3 H'/\H' D=some (.lst (((zAu f r xs).take j).map V.int)))
   ⟨Same.upd hD,zAb⟩ (fun j H' h=>⟨SqL.of (h.1 _ _ hfit),SqL.of (h.1 _ _ hle),SqL.of (h.1 _ _ hri)⟩) (by rw[nl,nf]) (by rw[nr,nf]) ?_ ?_
  ·rintro j x y z T H' hx hy hz ⟨e,hq⟩ hTn
   obtain⟨e1,q1,x1⟩:=hfx.get hx
   obtain⟨e2,q2,x2⟩:=hlx.get hy
   obtain⟨e3,q3,x3⟩:=hrx.get hz
   obtain⟨row,hrow,rfl⟩:=zCs q1
   obtain⟨row2,hrow2,rfl⟩:=zCs q2
   obtain⟨row3,hrow3,rfl⟩:=zCs q3
   obtain rfl:row=row2:=Option.some.inj (hrow.symm.trans hrow2)
   obtain rfl:row=row3:=Option.some.inj (hrow.symm.trans hrow3)
   obtain rfl:=Dm.bl_inv x1
   have hin:=okx.1 row (List.mem_of_getElem? hrow)
   have hTD:D≠T:=zAo hq hTn
   refine ⟨T,(zq rfl ⟨SqT.of zAb,rfl,_,(zq rfl ⟨_,(zq rfl ⟨_,(zq rfl ⟨rfl,rfl,?_⟩)⟩)⟩)⟩)⟩
   simp only [zNb,if_true]
   have hq2:upd H' T (.tup [V.bl (VametBase.fitsCond r.cond row),y,z]) D=some (.lst (((zAu f r xs).take j).map V.int)):=by rw[zAj hTD];exact hq
   refine (zq rfl (zq rfl (zq rfl (zq rfl ⟨H3,_,_,_,_,_,r.rel,f3,rfl,e.trans (Same.upd hTn),x2,x3,(fun u hu=>zN2 hin hu),(fun u hu=>zN2 hin hu),W.ok _ _ hf3,fun H4 e4=>?_⟩))))
   refine⟨_,e4 _ _ hq2,?_,((e.trans (Same.upd hTn)).trans e4).updR hD,?_⟩
   ·rw[List.length_map,List.length_take,vl]
    exact zCg (by have:=okx.2;omega)
   ·rw[zAb,zA2 (show(zAu f r xs)[j]? =some (zQ7 (VametBase.verdict f r row)) by unfold zAu;rw[List.getElem?_map,hrow];rfl),List.map_append,<-zWk]
    rfl
  ·rintro H' ⟨e,hq⟩
   rw[nf,<-vl,List.take_length]at hq
   exact k H' _ (k13.trans (Keep3.of e)) (T3.same e) (Dm.row (zAs (k13.free hD) hq))
theorem sc705:zAg ["self","relation","verdicts"] ["self","relation"] (zAc (s70 5)):= fsc
noncomputable def zTg(P:Program)(w:World)(CR CT:Addr):Sp:=fun vs H Q _=>∃(S:List Addr) (t la ra ca:Addr) (v:V) (f:zBc) (xs:List zC0) (N:Nat) (r:VametBase.Relation),vs= [.ref t,v]/\TrIn P w CT S H t la ra ca f xs N/\RelAt CR (woS S H) v r/\zL0 r/\zBy f/\zTe xs/\N<=80000/\
 ∀H',Keep3 la ra ca H H'->TrIn P w CT S H' t la ra ca f xs (N+3)->Q (.bl (Vametc.held f xs r)) H'
theorem zZn(F:∃fd,Fun K "holds" "Trial.holds" (s70 5) fH fd)(B:zB6 K mg CT fT fL fR fF fV fH fA)(c1:zDc mg "KEPT" 0)(c2:zDc mg "BROKEN" 1)(C1:L2.Callee P w K mg base 5 fV ["self","relation"] (zZl P w CR CT)):
  L2.Callee P w K mg base 6 fH ["self","relation"] (zTg P w CR CT):=by
 obtain⟨t1,c1⟩:=c1
 obtain⟨t2,c2⟩:=c2
 refine Fun.callee0 F sc705 (fun vs H Q E h=>?_) (fun _ _ _ _ _ _=>b2 fun _ _=>rfl) (fun cdv A outer s H vs Q E hr h=>?_)
 ·obtain⟨_,_,_,_,_,_,_,_,_,_,rfl,_⟩:=h
  rfl
 ·obtain⟨S,t,la,ra,ca,v,f,xs,N,r,rfl,hT,hRl,okr,okf,okx,hN,k⟩:=h
  refine⟨_,zAe (zAq (i:=2) sc705.nd rfl (Or.inl rfl) (zBq (E:=E0) (pv 0) B.cl B.mV C1 hr zAm (zAa (pv 1) zAd)))
   (zAf (zAi (zIu (zBd zK5 (zAr (v:= .int 1) (by rfl) c2 ⟨t2,rfl⟩) (pv 2) (by with_unfolding_all rfl)) (zE4 (zBd zFt (zAr (v:= .int 0) (by rfl) c1 ⟨t1,rfl⟩) (pv 2) (by with_unfolding_all rfl)))))),?_⟩
  obtain⟨dx,vp,vi,vo,ht,_⟩:=id hT.ob
  refine (zq rfl ⟨t,dx,(zq rfl ⟨ht,zJ6 _ _ _ _ _ _ (by decide +kernel) (by decide +kernel) (by decide +kernel) (by decide +kernel) (by decide +kernel) (by decide +kernel),(zq rfl ⟨S,t,la,ra,ca,v,f,xs,N,r,rfl,hT,hRl,okr,okf,okx,hN,fun H1 v1 k1 T1 dv=>?_⟩)⟩)⟩)
  obtain⟨va,rfl,hva⟩:=Dm.row_inv dv
  have hla:H1 va=some (.lst ((zAu f r xs).map V.int)):=by
   cases q:H va with
   | some u=>rw[zA8 q]at hva;cases hva
   | none=>rw[zA7 q]at hva;exact hva
  have k:=k H1 k1 T1
  rw[zTl]at k
  refine (zq rfl ⟨va,(zq rfl ⟨.inl (SqL.of hla),rfl,zDb _,(zq rfl ?_)⟩)⟩)
  rw[if_pos rfl,zF5]
  refine zD2 (fun e=>?_) fun e=>?_
  ·rw[e,Bool.true_and]at k
   refine (zq rfl ⟨va,(zq rfl ⟨.inl (SqL.of hla),rfl,zDb _,?_⟩)⟩)
   rw[if_neg Bool.false_ne_true,zF5]
   exact k
  ·rw[Bool.not_eq_true]at e
   rw[e,Bool.false_and]at k
   exact k
theorem sc706:zAg ["self","relations","relation"] ["self","relations"] (zAc (s70 6)):= fsc
noncomputable def RelsAt(CR:Addr)(A:Hp)(v:V)(rs:List VametBase.Relation):Prop:=∃ga vs,v= .ref ga/\A ga=some (.lst vs)/\vs.length=rs.length/\∀(i:Nat) u r,vs[i]? =some u->rs[i]? =some r->RelAt CR A u r
theorem RelsAt.same{CR:Addr}{A A':Hp}{v:V}{rs:List VametBase.Relation}(h:RelsAt CR A v rs)(e:Same A A'):RelsAt CR A' v rs:=by
 obtain⟨ga,vs,h0,h1,h2,h3⟩:=h
 exact⟨ga,vs,h0,e _ _ h1,h2,fun i u r a b=>(h3 i u r a b).same e⟩
noncomputable def yA7(P:Program)(w:World)(CR CT:Addr):Sp:=fun vs H Q _=>∃(S:List Addr) (t la ra ca:Addr) (v:V) (f:zBc) (xs:List zC0) (N:Nat) (rs:List VametBase.Relation),vs= [.ref t,v]/\TrIn P w CT S H t la ra ca f xs N/\RelsAt CR (woS S H) v rs/\(∀r∈rs,zL0 r)/\zBy f/\zTe xs/\N+3 * rs.length<=80000/\
 ∀H',Keep3 la ra ca H H'->TrIn P w CT S H' t la ra ca f xs (N+3 * rs.length)->Q (.bl (rs.all (Vametc.held f xs))) H'
theorem zSm{α:Type}{p:α->Bool}{l:List α}{i:Nat}{x:α}(h:l[i]? =some x):(l.drop i).all p=(p x&& (l.drop (i+1)).all p):=by
 rw[List.drop_eq_getElem_cons (List.getElem?_eq_some_iff.mp h).1,(List.getElem?_eq_some_iff.mp h).2]
 rfl
theorem zZo(F:∃fd,Fun K "holds_all" "Trial.holds_all" (s70 6) fA fd)(B:zB6 K mg CT fT fL fR fF fV fH fA)(C1:L2.Callee P w K mg base 6 fH ["self","relation"] (zTg P w CR CT)):
  L2.Callee P w K mg base 7 fA ["self","relations"] (yA7 P w CR CT):=by
 refine Fun.callee0 F sc706 (fun vs H Q E h=>?_) (fun _ _ _ _ _ _=>b2 fun _ _=>rfl) (fun cdv A outer s H vs Q E hr h=>?_)
 ·obtain⟨_,_,_,_,_,_,_,_,_,_,rfl,_⟩:=h
  rfl
 ·obtain⟨S,t,la,ra,ca,v,f,xs,N,rs,rfl,hT,hRs,okr,okf,okx,hN,k⟩:=h
  obtain⟨ga,gs,rfl,hga,hgl,hgr⟩:=id hRs
  refine⟨_,zAe (zC9 PassesOwn.never rfl (zBo (pv 1)) (zAv (i:=2) sc706.nd rfl (Or.inl rfl))
    (zAf (zCk (zE3 (zBb (zBq (E:=E0) (pv 0) B.cl B.mH C1 hr zAm (zAa (pv 2) zAd)) (fun _=>rfl))) (zAf (zAi zHn)) zA5)))
   (zAf (zAi zHn)),?_⟩
  refine⟨_,rfl,ga,rfl,⟨_,SqL.of (woS_same _ _ hga)⟩,zDx (K:=K) (a:=ga) (xs:=gs) (fun i σ H'=>∃v2,σ= [some (.ref t),some (.ref ga),v2]/\Keep3 la ra ca H H'/\TrIn P w CT S H' t la ra ca f xs (N+3 * i)/\rs.all (Vametc.held f xs)=(rs.drop i).all (Vametc.held f xs))
   ⟨none,rfl,Keep3.refl _ _ _ H,hT,rfl⟩ (fun i σ H' _ ⟨_,_,k1,_⟩=>SqL.of (woS_same _ _ (k1.wo hT.ml hT.mr hT.mc _ _ hga))) ?_ ?_⟩
  ·rintro i y σ H' hi ⟨v2,rfl,k1,T1,hall⟩
   have hil:i < rs.length:=by rw[<-hgl];exact(List.getElem?_eq_some_iff.mp hi).1
   obtain⟨r,hri⟩:=zDh hil
   have w1:=k1.wo (S:=S) hT.ml hT.mr hT.mc
   obtain⟨dx1,vp1,vi1,vo1,ht1,_⟩:=id T1.ob
   rw[zSm hri]at hall
   refine (zq rfl ⟨t,dx1,(zq rfl ⟨ht1,zJ6 _ _ _ _ _ _ (by decide +kernel) (by decide +kernel) (by decide +kernel) (by decide +kernel) (by decide +kernel) (by decide +kernel),(zq rfl ⟨S,t,la,ra,ca,_,f,xs,N+3 * i,r,rfl,T1,(hgr i y r hi hri).same w1,okr r (List.mem_of_getElem? hri),okf,okx,(by omega),fun H2 k2 T2=>(zq rfl ?_)⟩)⟩)⟩)
   have k12:=k1.trans k2
   cases hh:Vametc.held f xs r with
   | true=>
    rw[hh,Bool.true_and]at hall
    exact zG3 (zq rfl ⟨k12,T2,hall⟩)
   | false=>
    rw[hh,Bool.false_and]at hall
    refine zE6 ?_
    rw[hall]at k
    exact k H2 k12 (T2.mono (by omega))
  ·rintro σ H' ⟨v2,rfl,k1,T1,hall⟩
   rw[hgl,List.drop_length]at hall
   rw[hall]at k
   rw[hgl]at T1
   exact k H' k1 T1
end
open VametBase (within)
theorem zJ8{g:zH6}{n:Nat}{r:VametBase.Relation}(ok:zG7 g)(h:(Vametc.candidates g)[n]? =some r):zL0 r:=by
 obtain⟨c,i,o,rl,rfl,_,hi,ho,_⟩:=zTd h
 exact⟨ok.2.2.2.2.1 i (List.mem_of_getElem? hi),ok.2.2.2.2.2 o (List.mem_of_getElem? ho)⟩
theorem in4{Pr:Addr->Prop}{D la ra ca:Addr}(h0:Pr D)(h1:Pr la)(h2:Pr ra)(h3:Pr ca):∀b∈[D,la,ra,ca],Pr b:=fun b hb=>by
 simp only [List.mem_cons,List.not_mem_nil,or_false]at hb
 rcases hb with rfl | rfl | rfl | rfl <;> assumption
section
variable {P:Program} {w:World} {K:PySem.W.Frag} {mg:Str->Option Value} {base:Heap} {CF fF0 CR fR0 CT fT fL fR fF fV fH fA:Addr}
noncomputable abbrev s71:Stmt:=top 110
theorem sc71:zAg ["program","family","inputs","trial","number"] ["program","family","inputs"] (zAc s71):= fsc
noncomputable def yA8(CF:Addr):Sp:=fun vs H Q _=>∃(vp vf vi:V) (f:zBc) (g:zH6) (xs:List zC0),vs= [vp,vf,vi]/\Dm H vp (zBt f)/\FamAt CF H vf g/\Dm H vi (.list (xs.map zCl))/\zBy f/\zG7 g/\zTe xs/\
 ∀H' v,Same H H'->Dm (mix A0 H H') v (zCl ((Vametc.found f xs g).map VametBase.int))->Q v H'
noncomputable def tHo(P:Program)(w:World)(K:PySem.W.Frag)(CF CR CT:Addr):TT:=fun σ H Q=>zNr CT "holds" (zTg P w CR CT) E0 (zFq 3) (zEb (zI5 (zUu CF CR) E0 (zEb (zFq 1) (zEb (zFq 4) zMk))) zMk) σ H fun x H'=>∃k,zRi K x H' k/\Q k H'
theorem yEz{f fM fO:Addr}(F:DefAt K mg "held_relations" s71 f)(Bl:Blt mg)(B:zB6 K mg CT fT fL fR fF fV fH fA)(CI:L2.Callee P w K mg base 4 fT ["self","program","inputs"] (zVb P w CT))(CH:L2.Callee P w K mg base 6 fH ["self","relation"] (zTg P w CR CT))
  (mM:mg "how_many_relations" =some (.ref fM)) (CM:L2.Callee P w K mg base 1 fM ["family"] (zNw CF)) (mO:mg "relation_of" =some (.ref fO)) (CO:L2.Callee P w K mg base 3 fO ["family","number"] (zUu CF CR)):L2.Callee P w K mg base 7 f ["program","family","inputs"] (yA8 CF):=by
 refine F.callee0 sc71 (fun vs H Q E h=>?_) (fun _ _ _ _ _ _=>b3 fun _ _ _=>rfl) (fun cdv A outer s H vs Q E hr h=>?_)
 ·obtain⟨_,_,_,_,_,_,rfl,_⟩:=h
  rfl
 ·obtain⟨vp,vf,vi,f,g,xs,rfl,dp,hF,di,okp,okg,okx,k⟩:=h
  have hr3:Room 3 _:=hr.mono (by decide)
  refine⟨_,zAe (zAq (i:=3) sc71.nd rfl (Or.inr rfl) (zB0 (E:=E0) B.make CI (hr.mono (by decide)) (by rfl) B.gl zAm (zAa (pv 0) (zAa (pv 2) zAd))))
   (zAf (zAi (zEh (own:=[("number",4)]) (tt:=tHo P w K CF CR CT) rfl sc71.nd (zC1 rfl Bl.range (zAa (zAh (E:=E0) CM (hr.mono (by decide)) (by rfl) mM zAm (zAa (pv 1) zAd)) zAd)) (show zCf ["program","family","inputs","trial","number"] (zAc s71) _ [("number",4)]from bok)
    (fun s H C cl fp=>zAv (i:=4) sc71.nd rfl (Or.inl rfl)) (fun s H C cl fp=>zGe (zBb (zBq (C:=CT) (E:=E0) (pv 3) B.cl B.mH CH hr zAm (zAa (zAh (E:=E0) CO hr3 (by rfl) mO zAm (zAa (pv 1) (zAa (pv 4) zAd))) zAd)) (fun _=>rfl))) (fun s H C cl fp=>pv 4)))),?_⟩
  refine (zq rfl (zq rfl (fun t dx ht hdx hne=>⟨t,dx,vp,vi,H,f,xs,rfl,zAb,zA3 ht hdx,ht,dp,di,okp,okx,fun H1 la ra ca kp nl nr nc T1=>⟨rfl,?_⟩⟩)))
  have sm:=zA3 (o:= .ins CT dx []) ht hdx
  have s1:Same H H1:=kp.inA sm ht
  have ol:H la=none:=sm.free nl
  have or:H ra=none:=sm.free nr
  have oc:H ca=none:=sm.free nc
  have cl:=zQo okg
  refine (zq rfl ⟨vf,g,rfl,hF.same s1,okg,(zq rfl ⟨(by omega),(by omega),fun D hD=>?_⟩)⟩)
  rw[Int.toNat_natCast]
  have oD:H D=none:=s1.free hD
  have nDl:D≠la:=fun z=>by have:=T1.th la T1.ml;rw[<-z,hD]at this;cases this
  have nDr:D≠ra:=fun z=>by have:=T1.th ra T1.mr;rw[<-z,hD]at this;cases this
  have nDc:D≠ca:=fun z=>by have:=T1.th ca T1.mc;rw[<-z,hD]at this;cases this
  refine zFx (lo:=0) (n:=(Vametc.candidates g).length) (fun j H'=>Same H H'/\TrIn P w CT [D,la,ra,ca] H' t la ra ca f xs (3 * j)/\H' D=some (.lst ((((List.range j).filter fun n=>((Vametc.candidates g)[n]?).any (Vametc.held f xs)).map VametBase.int).map V.int))) ⟨s1.trans (Same.upd hD),T1.more hD,zAb⟩ (fun j H' hj h=>?_) (fun H' h=>?_)
  ·obtain⟨e,T,hq⟩:=h
   obtain⟨r,hr1⟩:=zDh hj
   obtain⟨dx',vp',vi',vo',ht',_⟩:=id T.ob
   refine⟨rfl,?_⟩
   refine (zq rfl ⟨t,dx',(zq rfl ⟨ht',zJ6 _ _ _ _ _ _ (by decide +kernel) (by decide +kernel) (by decide +kernel) (by decide +kernel) (by decide +kernel) (by decide +kernel),(zq rfl (zq rfl ⟨H,vf,g,j,r,?_,e,hF,okg,hr1,fun H2 v2 e2 rl=>?_⟩))⟩)⟩)
   ·rw[Int.zero_add]
   have rl2:=rl.same (zJ5 e e2 (in4 oD ol or oc) T.th)
   refine⟨[D,la,ra,ca],t,la,ra,ca,v2,f,xs,3 * j,r,rfl,T.same e2,rl2,zJ8 okg hr1,okp,okx,(by omega),fun H3 k3 T3=>(zq rfl ?_)⟩
   have e3:Same H H3:=k3.inA (e.trans e2) ol or oc
   have hq3:=k3.kp D _ (e2 _ _ hq) nDl nDr nDc
   rw[List.range_succ,List.filter_append,List.filter_cons,hr1]
   show(if Vametc.held f xs r=true then _ else _)
   refine zD2 (fun z=>?_) fun z=>?_
   ·refine (zq rfl ⟨_,hq3,?_,e3.updR oD,(T3.chg (by simp) hq3).mono (by omega),?_⟩)
    ·rw[List.length_map,List.length_map]
     refine zCg (Nat.le_trans (List.length_filter_le _ _) ?_)
     rw[List.length_range];omega
    ·rw[zAb]
     simp only [Option.any_some,z,if_true,List.filter_nil,List.map_append,List.map_cons,List.map_nil,Int.zero_add]
     rfl
   ·refine⟨e3,T3.mono (by omega),?_⟩
    rw[hq3]
    simp only [Option.any_some,z,if_false,List.filter_nil,List.append_nil,Bool.false_eq_true]
  ·obtain⟨e,T,hq⟩:=h
   refine k H' _ e ?_
   rw[zG8]
   exact Dm.row (zAs oD hq)
end
noncomputable def zIn(i j:Int):PyData:= .tuple [.int i,.int j]
noncomputable def zJ9(s:zDp):PyData:=zIn (zAy s) (zCo s)
noncomputable def zQp(c:zDd):PyData:=zIn (zBa c) (zCp c)
noncomputable def zH9(p:zBc):PyData:= .tuple (p.map zJ9)
theorem zN3(a b c d:Int):PyData.eqv (zIn a b) (zIn c d)=(decide (a=c) &&decide (b=d)):=by
 unfold zIn
 simp only [PyData.eqv,PyData.eqvAll,Bool.and_true]
 rfl
theorem zIa(a b:Int):SeqAt.shaped (zIn a b)=true:=by
 unfold SeqAt.shaped zIn
 simp[PyData.canLay0,PyData.canLayAll0,PyData.depth,PyData.depthAll]
theorem zD6(p:zBc):SeqAt.shaped (zH9 p)=true:=by
 have h:∀p:zBc,PyData.canLayAll0 (p.map zJ9)=true/\PyData.depthAll (p.map zJ9)<=1:=by
  intro p
  induction p with
  | nil=>exact⟨by simp[PyData.canLayAll0],by simp[PyData.depthAll]⟩
  | cons s p ih=>
   obtain⟨h1,h2⟩:=ih
   refine⟨?_,?_⟩
   ·rw[List.map_cons,PyData.canLayAll0,h1]
    unfold zJ9 zIn
    simp[PyData.canLay0,PyData.canLayAll0]
   ·rw[List.map_cons,PyData.depthAll]
    have:(zJ9 s).depth=1:=by
     unfold zJ9 zIn
     simp[PyData.depth,PyData.depthAll]
    omega
 obtain⟨h1,h2⟩:=h p
 unfold SeqAt.shaped zH9
 rw[PyData.canLay0,PyData.depth,h1,Bool.true_and]
 exact decide_eq_true (by omega)
theorem zSn{a b:zDp}:(decide ((zAy a:Int)=zAy b) &&decide (zCo a=zCo b))=decide (a=b):=by
 rw[Bool.eq_iff_iff,Bool.and_eq_true,decide_eq_true_iff,decide_eq_true_iff,decide_eq_true_iff]
 constructor
 ·rintro⟨h1,h2⟩
  exact zNx (by unfold zVa;rw[h1,h2])
 ·rintro rfl
  exact⟨rfl,rfl⟩
theorem zKa:∀p q:zBc,PyData.eqvAll (p.map zJ9) (q.map zJ9)=decide (p=q)
 | [],[]=>by simp[PyData.eqvAll]
 | [],_::_=>by simp[PyData.eqvAll]
 | _::_,[]=>by simp[PyData.eqvAll]
 | a::p,b::q=>by
  rw[List.map_cons,List.map_cons,PyData.eqvAll,zKa p q]
  unfold zJ9
  rw[zN3,zSn,Bool.eq_iff_iff,Bool.and_eq_true,decide_eq_true_iff,decide_eq_true_iff,decide_eq_true_iff]
  simp
theorem zSo(c d:zDd):PyData.eqv (zQp c) (zQp d)=decide (c=d):=by
 unfold zQp
 rw[zN3,Bool.eq_iff_iff,Bool.and_eq_true,decide_eq_true_iff,decide_eq_true_iff,decide_eq_true_iff]
 constructor
 ·rintro⟨h1,h2⟩
  exact zNz (by unfold zLx;rw[h1,h2])
 ·rintro rfl
  exact⟨rfl,rfl⟩
section
variable {K:PySem.W.Frag} {H:Hp}
theorem zMx{v:V}{i j:Int}(h:Dm H v (.tuple [.int i,.int j])):Dp K H v (zIn i j):=by
 obtain⟨T,rfl,hT⟩:=Dm.pair_inv h
 exact .tup (SqT.of hT) (.cons (.int i) (.cons (.int j) .nil))
theorem zKb{v:V}{p:zBc}(h:Dm H v (zBt p)):Dp K H v (zH9 p):=by
 obtain⟨a,xs,rfl,ha,hx⟩:=Dm.tup_inv (ds:=p.map zEl) h
 refine .tup (SqT.of ha) ?_
 clear ha h
 induction p generalizing xs with
 | nil=>cases hx;exact .nil
 | cons s p ih=>
  cases hx with
  | cons h1 h2=>exact .cons (zMx h1) (ih _ h2)
end
noncomputable def few:zDd->Option Int
 | .any=>some 0 | .some=>some 1 | .atLeast k=>some (k:Int) | _=>none
noncomputable def zZp:Option Int->WData
 | none=> .none
 | some i=> .int i
noncomputable def zZq:Option Int->V
 | none=> .non
 | some i=> .int i
theorem zN4{H:Hp}{v:V}{o:Option Int}(h:Dm H v (zZp o)):v=zZq o:=by
 cases o with
 | none=>exact Dm.non_inv h
 | some i=>exact Dm.int_inv h
theorem zUv{H:Hp}(o:Option Int):Dm H (zZq o) (zZp o):=by
 cases o with
 | none=>exact .non
 | some i=>exact .int i
theorem zOv(c d:zDd):Vametc.condFollows c d=(if c=d then true else match few d with
  | none=>false
  | some j=>if j=0 then true else match few c with
   | none=>false
   | some i=>decide (j<=i)):=by
 unfold Vametc.condFollows
 by_cases e:c=d
 ·subst e
  simp
 ·have eb:(c == d)=false:=by simpa using e
  rw[if_neg e,eb,Bool.false_or]
  cases c <;> cases d <;> simp_all [few] <;> (first | omega | (split <;> simp_all <;> omega) | skip)
noncomputable def yA9(ds:List WData)(d:WData):Prop:=∃c:zDd,ds= [zDq c]/\d=zZp (few c)
noncomputable def yBa(ds:List WData)(d:WData):Prop:=∃c c':zDd,ds= [zDq c,zDq c']/\d= .bool (Vametc.condFollows c c')
section
variable {P:Program} {w:World} {K:PySem.W.Frag} {mg:Str->Option Value} {base:Heap} {CR fR0:Addr}
noncomputable abbrev yBb:Stmt:=top 47
theorem zZr:zAg ["condition"] ["condition"] (zAc yBb):= fsc
theorem zZs{f:Addr}(F:DefAt K mg "fewest_asked" yBb f)(c0:zDc mg "CONDITION_ANY" 0)(c1:zDc mg "CONDITION_HAS_NUMBERS" 1)(c5:zDc mg "CONDITION_WITH_COUNT" 5):L2.Callee P w K mg base 1 f ["condition"] (zAx yA9):=by
 obtain⟨t0,c0⟩:=c0
 obtain⟨t1,c1⟩:=c1
 obtain⟨t5,c5⟩:=c5
 refine F.callee0 zZr (zD4 rfl fun ds d ⟨c,e,_⟩=>by rw[e];rfl) (fun _ _ _ _ _ _=>b1 fun _=>rfl) (fun cdv A outer s H vs Q E hr h=>?_)
 obtain⟨Ar,ds,d,sA,hd,⟨c,rfl,rfl⟩,k⟩:=h
 cases hd with
 | cons h1 h2=>
 cases h2
 obtain⟨T,rfl,hT⟩:=Dm.pair_inv h1
 have hT:=SqT.of (K:=K) (sA _ _ hT)
 have k:=k H (zZq (few c)) (Same.refl H) (zUv _)
 refine⟨_,zAe (zCk (zA6 zIh (zBi zBx (pv 0) zAp (fun _ _=>rfl)) (zAr (v:= .int 0) (by rfl) c0 ⟨t0,rfl⟩) (zA0 _)) (zAf (zAi zAp)) zA5)
  (zAe (zCk (zA6 zIh (zBi zBx (pv 0) zAp (fun _ _=>rfl)) (zAr (v:= .int 1) (by rfl) c1 ⟨t1,rfl⟩) (zA0 _)) (zAf (zAi zAp)) zA5)
  (zAe (zCk (zA6 zIh (zBi zBx (pv 0) zAp (fun _ _=>rfl)) (zAr (v:= .int 5) (by rfl) c5 ⟨t5,rfl⟩) (zA0 _)) (zAf (zAi (zBi zBx (pv 0) zAp (fun _ _=>rfl)))) zA5)
  (zAf (zAi zE2)))),?_⟩
 have at0:atI [V.int (zBa c:Int),V.int (zCp c)] 0=some (V.int (zBa c:Int)):=zAw (j:=0) rfl
 have at1:atI [V.int (zBa c:Int),V.int (zCp c)] 1=some (V.int (zCp c)):=zAw (j:=1) rfl
 refine (zq rfl ⟨T,_,_,(zq rfl ⟨rfl,hT,at0,rfl,(zq rfl ?_)⟩)⟩)
 refine zD2 (fun e=>?_) fun e=>?_
 ·have:c= .any:=by
   have e:=of_decide_eq_true e
   cases c <;> first | rfl | (exact absurd e (by simp[zBa]))
  subst this
  exact k
 have n0:c≠.any:=fun z=>e (by rw[z];rfl)
 refine (zq rfl ⟨T,_,_,(zq rfl ⟨rfl,hT,at0,rfl,(zq rfl ?_)⟩)⟩)
 refine zD2 (fun e=>?_) fun e=>?_
 ·have:c= .some:=by
   have e:=of_decide_eq_true e
   cases c <;> first | rfl | (exact absurd e (by simp[zBa]))
  subst this
  exact k
 have n1:c≠.some:=fun z=>e (by rw[z];rfl)
 refine (zq rfl ⟨T,_,_,(zq rfl ⟨rfl,hT,at0,rfl,(zq rfl ?_)⟩)⟩)
 refine zD2 (fun e=>?_) fun e=>?_
 ·obtain⟨j,rfl⟩:∃j,c= .atLeast j:=by
   have e:=of_decide_eq_true e
   cases c <;> first | exact⟨_,rfl⟩ | (exact absurd e (by simp[zBa]))
  exact (zq rfl ⟨T,_,_,(zq rfl ⟨rfl,hT,at1,k⟩)⟩)
 have n5:∀j,c≠.atLeast j:=fun j z=>e (by rw[z];rfl)
 have fn:few c=none:=by cases c <;> simp_all [few]
 rw[fn]at k
 exact k
noncomputable abbrev yBc:Stmt:=top 48
theorem scn48:zAg ["condition","other","fewest","fewest_of_other"] ["condition","other"] (zAc yBc):= fsc
theorem zZt{f f1:Addr}(F:DefAt K mg "is_no_wider" yBc f)(m1:mg "fewest_asked" =some (.ref f1))(C1:L2.Callee P w K mg base 1 f1 ["condition"] (zAx yA9)):L2.Callee P w K mg base 2 f ["condition","other"] (zAx yBa):=by
 refine F.callee0 scn48 (zD4 rfl fun ds d ⟨c,c',e,_⟩=>by rw[e];rfl) (fun _ _ _ _ _ _=>b2 fun _ _=>rfl) (fun cdv A outer s H vs Q E hr h=>?_)
 obtain⟨Ar,ds,d,sA,hd,⟨c,c',rfl,rfl⟩,k⟩:=h
 cases hd with
 | cons h1 h2=>
 cases h2 with
 | cons h2 h3=>
 cases h3
 rw[zOv]at k
 refine⟨_,zAe (zCk (zA6 (zNa hr.units) (pv 0) (pv 1) (zA0 _)) (zAf (zAi zHn)) zA5)
  (zAe (zAq (i:=2) scn48.nd rfl (Or.inl rfl) (zAh (E:=E0) C1 hr (by rfl) m1 zAm (zAa (pv 0) zAd)))
  (zAe (zAq (i:=3) scn48.nd rfl (Or.inl rfl) (zAh (E:=E0) C1 hr (by rfl) m1 zAm (zAa (pv 1) zAd)))
  (zAe (zCk (zA6 zIw (pv 3) zE2 (zA0 _)) (zAf (zAi zHn)) zA5)
  (zAf (zAi (zRf (zBd zIh (pv 3) zAp (zA0 _)) (zE4 (zIu (zBd zTs (pv 2) zE2 (zA0 _)) (zE4 (zBd zVo (pv 3) (pv 2) (zA0 _))))))))))),?_⟩
 refine (zq rfl (zq rfl ⟨zQp c,zQp c',zMx (h1.same sA),zMx (h2.same sA),zIa _ _,zIa _ _,(zq rfl ?_)⟩))
 rw[zSo]
 refine zD2 (fun e=>?_) fun e=>?_
 ·rw[if_pos (of_decide_eq_true e)]at k
  exact k H _ (Same.refl H) (.bl true)
 rw[if_neg (fun z=>e (decide_eq_true z))]at k
 refine (zq rfl ⟨Ar,_,_,sA,.cons h1 .nil,⟨c,rfl,rfl⟩,fun H1 v1 e1 d1=>?_⟩)
 obtain rfl:=zN4 d1
 refine (zq rfl ⟨Ar,_,_,sA.trans e1,.cons h2 .nil,⟨c',rfl,rfl⟩,fun H2 v2 e2 d2=>?_⟩)
 obtain rfl:=zN4 d2
 have k:=fun v dv=>k H2 v (e1.trans e2) dv
 refine (zq rfl ⟨rfl,(zq rfl ?_)⟩)
 cases h4:few c' with
 | none=>
  rw[h4]at k
  exact zE6 (k _ (.bl false))
 | some j=>
  rw[h4]at k
  dsimp only at k
  refine zG3 ?_
  refine (zq rfl ⟨rfl,(zq rfl ?_)⟩)
  refine zD2 (fun e=>?_) fun e=>?_
  ·have e:j=0:=V.int.inj (of_decide_eq_true e)
   rw[if_pos e]at k
   exact k _ (.bl true)
  ·rw[if_neg (fun(z:j=0)=>e (decide_eq_true (by rw[z];rfl)))]at k
   refine (zq rfl ⟨rfl,(zq rfl ?_)⟩)
   cases h5:few c with
   | none=>
    rw[h5]at k
    exact zG3 (k _ (.bl false))
   | some i=>
    rw[h5]at k
    refine zE6 ?_
    exact (zq rfl (zq rfl ⟨_,(zq rfl ⟨rfl,k _ (.bl _)⟩)⟩))
noncomputable abbrev yBd:Stmt:=top 49
theorem zZu:zAg ["relation","other"] ["relation","other"] (zAc yBd):= fsc
noncomputable def yBe(CR:Addr):Sp:=fun vs H Q _=>∃(v u:V) (r q:VametBase.Relation),vs= [v,u]/\RelAt CR H v r/\RelAt CR H u q/\Q (.bl (decide (r.input=q.input) &&decide (r.output=q.output))) H
theorem zZv{f:Addr}(F:DefAt K mg "has_same_turnings" yBd f)(B:zGy K mg CR fR0):L2.Callee P w K mg base 1 f ["relation","other"] (yBe CR):=by
 refine F.callee0 zZu (fun vs H Q E h=>?_) (fun _ _ _ _ _ _=>b2 fun _ _=>rfl) (fun cdv A outer s H vs Q E hr h=>?_)
 ·obtain⟨_,_,_,_,rfl,_⟩:=h
  rfl
 ·obtain⟨v,u,r,q,rfl,⟨a,dx,c,i,o,rfl,ha,dc,di,do_⟩,⟨b,dy,c',i',o',rfl,hb,dc',di',do'⟩,k⟩:=h
  refine⟨_,zAf (zAi (zIu (zBd (zNa hr.units) (zAl (pv 0) rfl) (zAl (pv 1) rfl) (zA0 _)) (zE4 (zBd (zNa hr.units) (zAl (pv 0) rfl) (zAl (pv 1) rfl) (zA0 _))))),?_⟩
  refine (zq rfl (zf ha B.cl B.n2 (zSf _ _ _ _) (zq rfl (zf hb B.cl B.n2 (zSf _ _ _ _) ⟨zH9 r.input,zH9 q.input,zKb di,zKb di',zD6 _,zD6 _,(zq rfl ?_)⟩))))
  have e1:PyData.eqv (zH9 r.input) (zH9 q.input)=decide (r.input=q.input):=zKa _ _
  have e2:PyData.eqv (zH9 r.output) (zH9 q.output)=decide (r.output=q.output):=zKa _ _
  rw[e1]
  refine zD2 (fun e=>?_) fun e=>?_
  ·refine (zq rfl (zf ha B.cl B.n4 (zSh _ _ _ _) (zq rfl (zf hb B.cl B.n4 (zSh _ _ _ _) ⟨zH9 r.output,zH9 q.output,zKb do_,zKb do',zD6 _,zD6 _,?_⟩))))
   rw[e2]
   rw[e,Bool.true_and]at k
   exact k
  ·rw[Bool.not_eq_true]at e
   rw[e,Bool.false_and]at k
   exact k
noncomputable def zQq:Nat->List Int
 | 0=>[0,1,2,3,4,5,6] | 1=>[1,2,6] | 2=>[2] | 3=>[3,6] | 4=>[4,6] | 5=>[5] | _=>[6]
structure zWl(K:PySem.W.Frag)(mg:Str->Option Value)(aF:Addr)(rs:List Addr):Prop where
 gl:mg "WAYS_THAT_FOLLOW" =some (.ref aF)
 tup:∀H:Hp,SqT K H aF (rs.map V.ref)
 len:rs.length=7
 row:∀(i:Nat) a,rs[i]? =some a->∀H:Hp,SqT K H a ((zQq i).map V.int)
theorem zWm(r q:zO6):decide ((zBu r:Int)∈zQq (zBu q))=Vametc.relFollows q r:=by
 cases r <;> cases q <;> decide
noncomputable abbrev yBf:Stmt:=top 50
theorem zZw:zAg ["relation","other"] ["relation","other"] (zAc yBf):= fsc
noncomputable def zZx(CR:Addr):Sp:=fun vs H Q _=>∃(v u:V) (r q:VametBase.Relation),vs= [v,u]/\RelAt CR H v r/\RelAt CR H u q/\∀H',Same H H'->Q (.bl (Vametc.follows q r)) H'
theorem zZy{f f1 f2 aF:Addr}{rs:List Addr}(F:DefAt K mg "follows_from" yBf f)(B:zGy K mg CR fR0)(T:zWl K mg aF rs)(m1:mg "has_same_turnings" =some (.ref f1))(C1:L2.Callee P w K mg base 1 f1 ["relation","other"] (yBe CR))
  (m2:mg "is_no_wider" =some (.ref f2)) (C2:L2.Callee P w K mg base 2 f2 ["condition","other"] (zAx yBa)):L2.Callee P w K mg base 3 f ["relation","other"] (zZx CR):=by
 refine F.callee0 zZw (fun vs H Q E h=>?_) (fun _ _ _ _ _ _=>b2 fun _ _=>rfl) (fun cdv A outer s H vs Q E hr h=>?_)
 ·obtain⟨_,_,_,_,rfl,_⟩:=h
  rfl
 ·obtain⟨v,u,r,q,rfl,hv,hu,k⟩:=h
  obtain⟨a,dx,c,i,o,rfl,ha,dc,di,do_⟩:=id hv
  obtain⟨b,dy,c',i',o',rfl,hb,dc',di',do'⟩:=id hu
  obtain⟨ta,hta⟩:=zDh (l:=rs) (i:=zBu q.rel) (by rw[T.len];exact zLz _)
  have hr1:Room 1 _:=hr.mono (by decide)
  have ef:Vametc.follows q r=((decide (r.input=q.input) &&decide (r.output=q.output)) && (decide ((zBu r.rel:Int)∈zQq (zBu q.rel)) &&Vametc.condFollows r.cond q.cond)):=by
   unfold Vametc.follows
   rw[zWm,Bool.eq_iff_iff]
   simp only [Bool.and_eq_true,beq_iff_eq,decide_eq_true_iff]
   constructor
   ·rintro⟨h1,h2,h3,h4⟩;exact⟨⟨h1.symm,h2.symm⟩,h4,h3⟩
   ·rintro⟨⟨h1,h2⟩,h4,h3⟩;exact⟨h1.symm,h2.symm,h3,h4⟩
  rw[ef]at k
  refine⟨_,zAe (zCk (zE3 (zBb (zAh (E:=E0) C1 hr1 (by rfl) m1 zAm (zAa (pv 0) (zAa (pv 1) zAd))) (fun _=>rfl))) (zAf (zAi zHn)) zA5)
   (zAf (zAi (zIu (zBd zFt (zAl (pv 0) rfl) (zBi zBx (zAr (v:= .ref aF) (by rfl) T.gl rfl) (zAl (pv 1) rfl) (fun _ _=>rfl)) (by with_unfolding_all rfl)) (zE4 (zAh (E:=E0) C2 hr (by rfl) m2 zAm (zAa (zAl (pv 0) rfl) (zAa (zAl (pv 1) rfl) zAd))))))),?_⟩
  refine (zq rfl (zq rfl ⟨_,_,r,q,rfl,hv,hu,(zq rfl ?_)⟩))
  cases hs:decide (r.input=q.input) &&decide (r.output=q.output)with
  | false=>
   rw[hs,Bool.false_and]at k
   exact zE6 (k H (Same.refl H))
  | true=>
   rw[hs,Bool.true_and]at k
   refine zG3 ?_
   refine (zq rfl (zf ha B.cl B.n3 (zSg _ _ _ _) (zq rfl (zf hb B.cl B.n3 (zSg _ _ _ _) ⟨aF,_,_,(zq rfl ⟨rfl,T.tup _,zAw (v:=V.ref ta) (by rw[List.getElem?_map,hta];rfl),ta,(zq rfl ⟨.inr (T.row _ _ hta _),rfl,zDb _,(zq rfl ?_)⟩)⟩)⟩))))
   rw[if_neg Bool.false_ne_true,zF5]
   refine zD2 (fun e=>?_) fun e=>?_
   ·rw[e,Bool.true_and]at k
    refine (zq rfl (zf ha B.cl B.n1 (zSe _ _ _ _) (zq rfl (zf hb B.cl B.n1 (zSe _ _ _ _) ⟨H,_,_,Same.refl H,.cons dc (.cons dc' .nil),⟨r.cond,q.cond,rfl,rfl⟩,fun H1 v1 e1 d1=>?_⟩))))
    obtain rfl:=Dm.bl_inv d1
    exact k H1 e1
   ·rw[Bool.not_eq_true]at e
    rw[e,Bool.false_and]at k
    exact k H (Same.refl H)
end
end Rf
namespace L2
open PySem PySem.Spec PyProof.Rows
theorem zSp{d:Addr}{o:Obj}{kvs:List (Key×V)}{g:TG}{tb:TS}{D:zMe}{σ:St}{H:Hp}(Pv:Nat->St->Hp->Prop)(h0:Pv 0 σ H)(hl:∀i σ H,i<=kvs.length->Pv i σ H->H d=some (.frz o (.dK kvs)))
  (hs:∀i k v σ H,kvs[i]? =some (k,v)->Pv i σ H->g (kV k) σ H fun σ2 H2=>tb {D with nx:=Pv (i+1),ct:=Pv (i+1),bk:=D.nx} σ2 H2) (hd:∀σ H,Pv kvs.length σ H->D.nx σ H):
  ∃W:Nat->Nat->St->Hp->Prop,(∃m,W 0 m σ H)/\∀i m σ H,W i m σ H->
   ((Itk d o kvs).stop i H/\D.nx σ H)\/((Itk d o kvs).go i H/\∃N:St->Hp->Prop,(∀σ' H',N σ' H'->∃m',m' < m/\W (i+1) m' σ' H')/\∀x H',(Itk d o kvs).yld i H x H'->g x σ H' fun σ2 H2=>tb {D with nx:=N,ct:=N,bk:=D.nx} σ2 H2):=by
 refine⟨fun i m σ H=>m=kvs.length - i/\i<=kvs.length/\Pv i σ H,⟨kvs.length,by simp,Nat.zero_le _,h0⟩,?_⟩
 rintro i m σ H ⟨rfl,hi,p⟩
 have q:=hl i σ H hi p
 by_cases hlt:i < kvs.length
 ·refine .inr ⟨⟨q,hlt⟩,Pv (i+1),fun σ' H' p'=>⟨kvs.length - (i+1),by omega,rfl,hlt,p'⟩,fun x H' y=>?_⟩
  obtain⟨e,k,v,hk,rfl⟩:=y
  subst e
  exact hs i k v σ _ hk p
 ·have e:i=kvs.length:=by omega
  subst e
  exact .inl ⟨⟨q,Nat.le_refl _⟩,hd σ H p⟩
end L2
namespace Rf
open PySem PySem.Spec PyProof.Rows L2
open PySem.W (WData)
noncomputable def DRel(CR:Addr)(A:Hp)(c:List VametBase.Relation):List (Key×V)->List Nat->Prop:=Paired fun(kv:Key×V) (k:Nat)=>kv.1= .inl (k:Int)/\∃r,c[k]? =some r/\RelAt CR A kv.2 r
section
variable {CR:Addr} {A A':Hp} {c:List VametBase.Relation} {kvs:List (Key×V)} {ks:List Nat}
theorem DRel.same(h:DRel CR A c kvs ks)(e:Same A A'):DRel CR A' c kvs ks:=Paired.mapP h fun _ _ ⟨h1,r,h2,h3⟩=>⟨h1,r,h2,h3.same e⟩
theorem DRel.val(h:DRel CR A c kvs ks){k:Nat}(hk:k∈ks):∃v r,zFg kvs (.inl (k:Int))=some v/\c[k]? =some r/\RelAt CR A v r:=by
 unfold DRel at h
 induction h with
 | nil=>cases hk
 | @cons kv k' kvs ks q t ih=>
  obtain⟨h1,r,h2,h3⟩:=q
  by_cases e:k'=k
  ·subst e
   exact⟨_,r,zCe h1,h2,h3⟩
  ·have ne:¬kv.1= .inl (k:Int):=fun z=>by
    rw[h1]at z
    have:=Sum.inl.inj z
    omega
   rw[zB5 ne]
   rcases List.mem_cons.mp hk with z | hk
   ·exact absurd z.symm e
   ·exact ih hk
theorem DRel.none(h:DRel CR A c kvs ks){k:Nat}(hk:k∉ks):zFg kvs (.inl (k:Int))=Option.none:=by
 unfold DRel at h
 induction h with
 | nil=>rfl
 | @cons kv k' kvs ks q t ih=>
  obtain⟨h1,_⟩:=q
  have ne:¬kv.1= .inl (k:Int):=fun z=>by
   rw[h1]at z
   have:=Sum.inl.inj z
   exact hk (by rw[show k'=k by omega];exact List.mem_cons_self)
  rw[zB5 ne]
  exact ih fun m=>hk (List.mem_cons_of_mem _ m)
theorem DRel.key(h:DRel CR A c kvs ks){i:Nat}{k:Key}{v:V}(hi:kvs[i]? =some (k,v)):∃n,ks[i]? =some n/\k= .inl (n:Int):=by
 unfold DRel at h
 induction h generalizing i with
 | nil=>simp at hi
 | @cons kv k' kvs ks q t ih=>
  cases i with
  | zero=>
   simp at hi
   subst hi
   exact⟨k',rfl,q.1⟩
  | succ i=>
   obtain⟨n,h1,h2⟩:=ih (i:=i) (by simpa using hi)
   exact⟨n,by simpa using h1,h2⟩
theorem DRel.len(h:DRel CR A c kvs ks):kvs.length=ks.length:=Paired.length h
end
theorem zWn{H:Hp}{d:Addr}{o:Obj}{u:HO}(h:H d=some (.frz o u)):Rd H d u:= .inr ⟨o,h⟩
section
variable {P:Program} {w:World} {K:PySem.W.Frag} {mg:Str->Option Value} {base:Heap} {CF fF0 CR fR0:Addr}
noncomputable abbrev yBg:Stmt:=top 51
theorem scn51:zAg ["number","other_number","relations","relation","other"] ["number","other_number","relations"] (zAc yBg):= fsc
noncomputable def yBh(CR:Addr):Sp:=fun vs H Q _=>∃(d:Addr) (n m:Nat) (kvs:List (Key×V)) (v u:V) (r q:VametBase.Relation),vs= [.int (n:Int),.int (m:Int),.ref d]/\Rd H d (.dK kvs)/\zFg kvs (.inl (n:Int))=some v/\zFg kvs (.inl (m:Int))=some u/\RelAt CR H v r/\RelAt CR H u q/\
 ∀H',Same H H'->Q (.bl (Vametc.follows q r&& (decide (m < n) || !Vametc.follows r q))) H'
theorem zZz{f f1:Addr}(F:DefAt K mg "gives_way" yBg f)(m1:mg "follows_from" =some (.ref f1))(C1:L2.Callee P w K mg base 3 f1 ["relation","other"] (zZx CR)):L2.Callee P w K mg base 4 f ["number","other_number","relations"] (yBh CR):=by
 refine F.callee0 scn51 (fun vs H Q E h=>?_) (fun _ _ _ _ _ _=>b3 fun _ _ _=>rfl) (fun cdv A outer s H vs Q E hr h=>?_)
 ·obtain⟨_,_,_,_,_,_,_,_,rfl,_⟩:=h
  rfl
 ·obtain⟨d,n,m,kvs,v,u,r,q,rfl,hd,hv,hu,rv,ru,k⟩:=h
  refine⟨_,zAe (zAq (i:=3) scn51.nd rfl (Or.inl rfl) (zMp (zMr hr) (pv 2) (pv 0) (fun _ _=>rfl)))
   (zAe (zAq (i:=4) scn51.nd rfl (Or.inl rfl) (zMp (zMr hr) (pv 2) (pv 1) (fun _ _=>rfl)))
   (zAe (zCk (zE3 (zBb (zAh (E:=E0) C1 hr (by rfl) m1 zAm (zAa (pv 3) (zAa (pv 4) zAd))) (fun _=>rfl))) (zAf (zAi zHn)) zA5)
   (zAf (zAi (zRf (zBd zMg (pv 1) (pv 0) (zA0 _)) (zE4 (zVk (zAh (E:=E0) C1 hr (by rfl) m1 zAm (zAa (pv 4) (zAa (pv 3) zAd)))))))))),?_⟩
  refine (zq rfl (zq rfl ⟨d,v,rfl,.inl ⟨kvs,.inl (n:Int),hd,rfl,hv.symm⟩,?_⟩))
  refine (zq rfl (zq rfl ⟨d,u,rfl,.inl ⟨kvs,.inl (m:Int),hd,rfl,hu.symm⟩,?_⟩))
  refine (zq rfl (zq rfl ⟨v,u,r,q,rfl,rv,ru,fun H1 e1=>(zq rfl ?_)⟩))
  cases hf:Vametc.follows q r with
  | false=>
   rw[hf,Bool.false_and]at k
   exact zE6 (k H1 e1)
  | true=>
   rw[hf,Bool.true_and]at k
   refine zG3 ?_
   refine (zq rfl (zq rfl ⟨_,(zq rfl ⟨rfl,(zq rfl ?_)⟩)⟩))
   have em:decide ((m:Int) < (n:Int))=decide (m < n):=by
    rw[Bool.eq_iff_iff,decide_eq_true_iff,decide_eq_true_iff];omega
   rw[em]
   refine zD2 (fun e=>?_) fun e=>?_
   ·rw[e,Bool.true_or]at k
    exact k H1 e1
   ·rw[Bool.not_eq_true]at e
    rw[e,Bool.false_or]at k
    exact (zq rfl (zq rfl ⟨u,v,q,r,rfl,ru.same e1,rv.same e1,fun H2 e2=>(zq rfl (k H2 (e1.trans e2)))⟩))
noncomputable abbrev yBi:Stmt:=top 52
theorem scn52:zAg ["number","relations","other_number"] ["number","relations"] (zAc yBi):= fsc
noncomputable def zZ0(CR:Addr):Sp:=fun vs H Q _=>∃(d:Addr) (n:Nat) (kvs:List (Key×V)) (ks:List Nat) (c:List VametBase.Relation) (A:Hp),vs= [.int (n:Int),.ref d]/\H d=some (.dK kvs)/\Same A H/\A d=none/\DRel CR A c kvs ks/\n∈ks/\
 ∀H',Same H H'->Q (.bl (!ks.any fun m=>gw c n m)) H'
theorem zSq{α:Type}{p:α->Bool}{l:List α}{i:Nat}{x:α}(h:l[i]? =some x):(l.drop i).any p=(p x || (l.drop (i+1)).any p):=by
 rw[List.drop_eq_getElem_cons (List.getElem?_eq_some_iff.mp h).1,(List.getElem?_eq_some_iff.mp h).2]
 rfl
theorem zIb{H H':Hp}{d:Addr}{o:Obj}{u:HO}(h:H d=some u)(e:Same (upd H d (.frz o u)) H'):Same H (upd H' d u):=fun b q z=>by
 by_cases hb:b=d
 ·subst hb
  rw[h]at z
  cases z
  exact zAb
 ·rw[zAj hb]
  exact e b q (by rw[zAj hb];exact z)
theorem zZ1{f f1:Addr}(F:DefAt K mg "is_strongest" yBi f)(m1:mg "gives_way" =some (.ref f1))(C1:L2.Callee P w K mg base 4 f1 ["number","other_number","relations"] (yBh CR)):L2.Callee P w K mg base 5 f ["number","relations"] (zZ0 CR):=by
 refine F.callee0 scn52 (fun vs H Q E h=>?_) (fun _ _ _ _ _ _=>b2 fun _ _=>rfl) (fun cdv A outer s H vs Q E hr h=>?_)
 ·obtain⟨_,_,_,_,_,_,rfl,_⟩:=h
  rfl
 ·obtain⟨d,n,kvs,ks,c,Ar,rfl,hd,sA,hAd,hK,hn,k⟩:=h
  refine⟨_,zAe (zUc (zC9 PassesOwn.never rfl (zUd (pv 1)) (zAv (i:=2) scn52.nd rfl (Or.inl rfl))
    (zAf (zCk (zBb (zAh (E:=E0) C1 hr (by rfl) m1 zAm (zAa (pv 0) (zAa (pv 2) (zAa (pv 1) zAd)))) (fun _=>rfl)) (zAf (zAi zHn)) zA5))))
   (zAf (zAi zHn)),?_⟩
  refine⟨d,_,hd,True.intro,fun od=>?_⟩
  have sL:Same Ar (upd H d (.frz od (.dK kvs))):=Same.hole sA hAd
  refine⟨_,rfl,d,od,rfl,.inl ⟨kvs,zAb,zSp (fun i σ H'=>∃v2,σ= [some (V.int (n:Int)),some (.ref d),v2]/\Same (upd H d (.frz od (.dK kvs))) H'/\(ks.any fun m=>gw c n m)=((ks.drop i).any fun m=>gw c n m)) ⟨none,rfl,Same.refl _,rfl⟩
   (fun i σ H' _ ⟨_,_,e,_⟩=>e _ _ zAb) ?_ ?_⟩⟩
  ·rintro i key v σ H' hi ⟨v2,rfl,e,hany⟩
   obtain⟨m,hm,rfl⟩:=hK.key hi
   obtain⟨vn,rn,q1,q2,q3⟩:=hK.val hn
   obtain⟨vm,rm,p1,p2,p3⟩:=hK.val (List.mem_of_getElem? hm)
   have sA':=sL.trans e
   rw[zSq hm]at hany
   have eg:gw c n m=(Vametc.follows rm rn&& (decide (m < n) || !Vametc.follows rn rm)):=by
    unfold gw;rw[q2,p2]
   rw[eg]at hany
   refine (zq rfl (zq rfl (zq rfl ⟨d,n,m,kvs,vn,vm,rn,rm,rfl,zWn (e _ _ zAb),q1,p1,q3.same sA',p3.same sA',fun H2 e2=>(zq rfl ?_)⟩)))
   have e12:=e.trans e2
   refine zD2 (fun z=>?_) fun z=>?_
   ·rw[z,Bool.true_or]at hany
    rw[hany]at k
    exact⟨e12 _ _ zAb,k _ (zIb hd e12)⟩
   ·rw[Bool.not_eq_true]at z
    rw[z,Bool.false_or]at hany
    exact (zq rfl ⟨e12,hany⟩)
  ·rintro σ H' ⟨v2,rfl,e,hany⟩
   rw[hK.len,List.drop_length]at hany
   rw[hany]at k
   exact⟨e _ _ zAb,k _ (zIb hd e)⟩
noncomputable abbrev zZ2:Stmt:=top 53
theorem scn53:zAg ["family","numbers","relations","number"] ["family","numbers"] (zAc zZ2):= fsc
noncomputable def yE0(c:List VametBase.Relation)(ks:List Nat):List Nat:=ks.filter fun n=>!ks.any fun m=>gw c n m
noncomputable def yBj(CF:Addr):Sp:=fun vs H Q _=>∃(vf vn:V) (g:zH6) (ks:List Nat),vs= [vf,vn]/\FamAt CF H vf g/\zG7 g/\Dm H vn (zCl (ks.map VametBase.int))/\(∀k∈ks,k < (Vametc.candidates g).length)/\ks.Nodup/\ks.length<=1000/\
 ∀H' v,Same H H'->Dm (mix A0 H H') v (zCl ((yE0 (Vametc.candidates g) ks).map VametBase.int))->Q v H'
noncomputable def tSt(K:PySem.W.Frag)(CR:Addr):TT:=fun σ H Q=>zI5 (zZ0 CR) E0 (zEb (zFq 3) (zEb (zFq 2) zMk)) σ H fun x H'=>∃k,zRi K x H' k/\Q k H'
theorem zBz{α:Type}{p:α->Bool}{l:List α}{j:Nat}{x:α}(h:l[j]? =some x):(l.take (j+1)).filter p=(l.take j).filter p++ (if p x=true then [x]else []):=by
 rw[zA2 h,List.filter_append,List.filter_cons]
 rfl
theorem zZ3{f f1 f2:Addr}(F:DefAt K mg "strongest_of" zZ2 f)(m1:mg "relation_of" =some (.ref f1))(C1:L2.Callee P w K mg base 3 f1 ["family","number"] (zUu CF CR))
  (m2:mg "is_strongest" =some (.ref f2)) (C2:L2.Callee P w K mg base 5 f2 ["number","relations"] (zZ0 CR)):L2.Callee P w K mg base 6 f ["family","numbers"] (yBj CF):=by
 refine F.callee0 scn53 (fun vs H Q E h=>?_) (fun _ _ _ _ _ _=>b2 fun _ _=>rfl) (fun cdv A outer s H vs Q E hr h=>?_)
 ·obtain⟨_,_,_,_,rfl,_⟩:=h
  rfl
 ·obtain⟨vf,vn,g,ks,rfl,hF,okg,dn,hks,hnd,hlen,k⟩:=h
  obtain⟨na,rfl,hna⟩:=Dm.row_inv dn
  have hr3:Room 3 _:=hr.mono (by decide)
  refine⟨_,zAe (zAq (i:=2) scn53.nd rfl (Or.inr rfl) zNd)
   (zAe (zC9 PassesOwn.never rfl (zBo (pv 1)) (zAv (i:=3) scn53.nd rfl (Or.inl rfl))
    (zAf (zMq (zMr hr) (pv 2) (pv 3) (zAh (E:=E0) C1 hr3 (by rfl) m1 zAm (zAa (pv 0) (zAa (pv 3) zAd))) (by rfl))))
   (zAf (zAi (zEh (own:=[("number",3)]) (tt:=tSt K CR) rfl scn53.nd (zBo (pv 1)) (show zCf ["family","numbers","relations","number"] (zAc zZ2) _ [("number",3)]from bok)
    (fun s H C cl fp=>zAv (i:=3) scn53.nd rfl (Or.inl rfl)) (fun s H C cl fp=>zGe (zBb (zAh (E:=E0) C2 hr (by rfl) m2 zAm (zAa (pv 3) (zAa (pv 2) zAd))) (fun _=>rfl))) (fun s H C cl fp=>pv 3))))),?_⟩
  intro d hd
  have inD:∀{Pr:Addr->Prop},Pr d->∀b∈[d],Pr b:=fun h b hb=>by rw[List.mem_singleton.mp hb];exact h
  refine⟨_,rfl,na,rfl,⟨_,SqL.of (Same.upd hd _ _ hna)⟩,zDx (K:=K) (a:=na) (xs:=(ks.map VametBase.int).map V.int) (fun i σ H'=>∃v3 kvs,σ= [some vf,some (.ref na),some (.ref d),v3]/\Same H H'/\H' d=some (.dK kvs)/\DRel CR (woS [d] H') (Vametc.candidates g) kvs (ks.take i))
   ⟨none,[],rfl,Same.upd hd,zAb,.nil⟩ (fun i σ H' _ ⟨_,_,_,e,_⟩=>SqL.of (e _ _ hna)) ?_ ?_⟩
  ·rintro i y σ H' hi ⟨v3,kvs,rfl,e,hdk,hK⟩
   rw[List.map_map]at hi
   obtain⟨n,hn,rfl⟩:=zCs hi
   obtain⟨r,hr1⟩:=zDh (hks n (List.mem_of_getElem? hn))
   have nin:n∉ks.take i:=fun m=>by
    have hi1:i < ks.length:=(List.getElem?_eq_some_iff.mp hn).1
    obtain⟨j,hj,ej⟩:=List.getElem_of_mem m
    rw[List.length_take]at hj
    rw[List.getElem_take]at ej
    have en:=(List.getElem?_eq_some_iff.mp hn).2
    have:=(List.getElem_inj (h₀:=by omega) (h₁:=hi1) hnd).mp (ej.trans en.symm)
    omega
   refine (zq rfl (zq rfl ⟨H,vf,g,n,r,rfl,e,hF,okg,hr1,fun H2 v2 e2 rl=>?_⟩))
   have hd2:=e2 _ _ hdk
   have kl:=hK.len
   rw[List.length_take]at kl
   refine (zq rfl (zq rfl ⟨d,(zq rfl ⟨DPut.k (k:= .inl (n:Int)) hd2 (zCg (by omega)),?_⟩)⟩))
   have hnew:=zJq v2 (hK.none nin)
   have sH3:Same H (upd H2 d (.dK (zG2 kvs (.inl (n:Int)) v2))):=(e.trans e2).updR hd
   have w3:∀(o:HO),Same (woS [d] H2) (woS [d] (upd H2 d o)):=fun o=>zJ7 (by simp)
   refine ⟨_,(zq rfl ⟨sH3,zAb,?_⟩)⟩
   rw[hnew,zA2 hn]
   refine Paired.snoc ((hK.same (Same.woS e2)).same (w3 _)) ⟨rfl,r,hr1,?_⟩
   exact(rl.same (zJ5 e e2 (inD hd) (inD (by rw[hdk];rfl)))).same (w3 _)
  ·rintro σ H1 ⟨v3,kvs,rfl,e,hdk,hK⟩
   rw[List.length_map,List.length_map,List.take_length]at hK
   refine (zq rfl ⟨na,rfl,⟨_,SqL.of (e _ _ hna)⟩,fun D hD=>?_⟩)
   refine zD0 (xs:=(ks.map VametBase.int).map V.int) (fun j H'=>Same H1 H'/\H' D=some (.lst ((((ks.take j).filter fun n=>!ks.any fun m=>gw (Vametc.candidates g) n m).map VametBase.int).map V.int))) ⟨Same.upd hD,zAb⟩ (fun j H' _ h=>SqL.of (h.1 _ _ (e _ _ hna))) (fun j x H' hx h=>?_) (fun H' h=>?_)
   ·obtain⟨e1,hq⟩:=h
    rw[List.map_map]at hx
    obtain⟨n,hn,rfl⟩:=zCs hx
    refine⟨rfl,?_⟩
    refine (zq rfl (zq rfl ⟨d,n,kvs,ks,_,woS [d] H1,rfl,e1 _ _ hdk,woS_same.trans e1,(by unfold woS;rw[if_pos (by simp)]),hK,List.mem_of_getElem? hn,fun H2 e2=>(zq rfl ?_)⟩))
    rw[zBz hn]
    refine zD2 (fun z=>?_) fun z=>?_
    ·rw[if_pos z]
     refine (zq rfl ⟨_,e2 _ _ hq,?_,(e1.trans e2).updR hD,?_⟩)
     ·rw[List.length_map,List.length_map]
      refine zCg (Nat.le_trans (List.length_filter_le _ _) ?_)
      rw[List.length_take];omega
     ·rw[zAb,List.map_append,List.map_append]
      rfl
    ·rw[if_neg z,List.append_nil]
     exact⟨e1.trans e2,e2 _ _ hq⟩
   ·obtain⟨e1,hq⟩:=h
    rw[List.length_map,List.length_map,List.take_length]at hq
    exact k H' _ (e.trans e1) (Dm.row (zAs (e.free hD) hq))
end
noncomputable def zEu(ch:List Nat):zC0:=ch.map VametBase.int
noncomputable def zFj(ch:List Nat):WData:=zCl (zEu ch)
noncomputable def zVc(ch:List Nat)(n:Nat):Bool:=match ch.getLast? with
 | none=>true
 | some z=>decide (z < n)
noncomputable def zQ9(l ch:List Nat):List (List Nat):=(l.filter (zVc ch)).map fun n=>ch++ [n]
theorem zQr(l ch:List Nat):(zQ9 l ch).length<=l.length:=by
 unfold zQ9
 rw[List.length_map]
 exact List.length_filter_le _ _
theorem zJf(l:List Nat):∀sets:List (List Nat),(sets.flatMap (zQ9 l)).length<=sets.length * l.length
 | []=>by simp
 | ch::sets=>by
  rw[List.flatMap_cons,List.length_append,List.length_cons,Nat.add_mul,Nat.one_mul,Nat.add_comm]
  exact Nat.add_le_add (zJf l sets) (zQr l ch)
section
variable {P:Program} {w:World} {K:PySem.W.Frag} {mg:Str->Option Value} {base:Heap}
noncomputable abbrev yBk:Stmt:=top 55
theorem scn55:zAg ["sets","numbers","greater_sets","chosen","number"] ["sets","numbers"] (zAc yBk):= fsc
noncomputable def yBl:Sp:=fun vs H Q _=>∃(A:Hp) (v u:V) (sets:List (List Nat)) (l:List Nat),vs= [v,u]/\Same A H/\Dm A v (.list (sets.map zFj))/\Dm H u (zFj l)/\(∀ch∈sets,ch.length<=20)/\sets.length<=2000/\l.length<=10/\
 ∀H' v',Same H H'->Dm (mix A H H') v' (.list ((zHj sets l).map zFj))->Q v' H'
theorem zZ4{f:Addr}(F:DefAt K mg "one_more_each" yBk f):L2.Callee P w K mg base 1 f ["sets","numbers"] yBl:=by
 refine F.callee0 scn55 (fun vs H Q E h=>?_) (fun _ _ _ _ _ _=>b2 fun _ _=>rfl) (fun cdv A outer s H vs Q E hr h=>?_)
 ·obtain⟨_,_,_,_,_,rfl,_⟩:=h
  rfl
 ·obtain⟨Ar,v,u,sets,l,rfl,sA,dv,du,hlen,hcnt,hl10,k⟩:=h
  obtain⟨ra,xs,rfl,hra,hxs⟩:=Dm.list_inv dv
  obtain⟨na,rfl,hna⟩:=Dm.row_inv du
  have hxl:xs.length=sets.length:=by rw[hxs.length,List.length_map]
  refine⟨_,zAe (zAq (i:=2) scn55.nd rfl (Or.inl rfl) (zA4 zAd))
   (zAe (zC9 PassesOwn.never rfl (zBo (pv 0)) (zAv (i:=3) scn55.nd rfl (Or.inl rfl))
    (zAf (zC9 PassesOwn.never rfl (zBo (pv 1)) (zAv (i:=4) scn55.nd rfl (Or.inl rfl))
     (zAf (zCk (zJn (zE3 (zBb (pv 3) (fun _=>rfl))) (zHp (zA6 zF9 (pv 4) (zBi zBj (pv 3) (zIg zE5 zAp) (fun _ _=>rfl)) (zA0 _)))).pt
      (zAf (zC8 (zFc PySem.F.plainAttrs_list PySem.F.slot_list_append PySem.F.type_list_append zEf (pv 2) (zAa (zC3 zK6 (pv 3) (zA4 (zAa (pv 4) zAd))) zAd)))) zA5)))))
   (zAf (zAi (pv 2)))),?_⟩
  refine⟨(by show 0<=sizeLine;decide),fun D hD=>?_⟩
  refine⟨_,rfl,ra,rfl,⟨_,SqL.of (Same.upd hD _ _ (sA _ _ hra))⟩,zDx (K:=K) (a:=ra) (xs:=xs) (fun i σ H'=>∃v3 v4:Option V,σ= [some (.ref ra),some (.ref na),some (.ref D),v3,v4]/\Same H H'/\∃acc,H' D=some (.lst acc)/\DmAll (wo (mix Ar H H') D) acc (((sets.take i).flatMap (zQ9 l)).map zFj))
   ⟨none,none,rfl,Same.upd hD,[],zAb,.nil⟩ (fun i σ H' _ ⟨_,_,_,e,_⟩=>SqL.of (e _ _ (sA _ _ hra))) ?_ ?_⟩
  ·rintro i y σ H' hi ⟨v3,v4,rfl,e,acc,hq,dq⟩
   obtain⟨d,hdi,dy⟩:=hxs.get hi
   obtain⟨ch,hch,rfl⟩:=zCs hdi
   obtain⟨rr,rfl,hrr⟩:=Dm.row_inv dy
   have hrl:=hlen ch (List.mem_of_getElem? hch)
   have him:i < sets.length:=(List.getElem?_eq_some_iff.mp hch).1
   have hout:((sets.take i).flatMap (zQ9 l)).length<=2000 * 10:=by
    refine Nat.le_trans (zJf l _) (Nat.mul_le_mul ?_ hl10)
    rw[List.length_take];omega
   refine⟨_,rfl,na,rfl,⟨_,SqL.of (e _ _ hna)⟩,zDx (K:=K) (a:=na) (xs:=(zEu l).map V.int) (fun j σ H'=>∃v4:Option V,σ= [some (.ref ra),some (.ref na),some (.ref D),some (.ref rr),v4]/\Same H H'/\∃acc,H' D=some (.lst acc)/\DmAll (wo (mix Ar H H') D) acc ((((sets.take i).flatMap (zQ9 l)) ++zQ9 (l.take j) ch).map zFj))
    ⟨v4,rfl,e,acc,hq,by rw[List.take_zero];show DmAll _ _ ((_++ []).map zFj);rw[List.append_nil];exact dq⟩ (fun j σ H'' _ ⟨_,_,e',_⟩=>SqL.of (e' _ _ hna)) ?_ ?_⟩
   ·rintro j y σ H'' hj ⟨v4,rfl,e',acc,hq,dq⟩
    unfold zEu at hj
    rw[List.map_map]at hj
    obtain⟨n,hn,rfl⟩:=zCs hj
    have hrr':=e' _ _ (sA _ _ hrr)
    have hal:acc.length<=2000 * 10+10:=by
     rw[dq.length,List.length_map,List.length_append]
     have:=zQr (l.take j) ch
     rw[List.length_take]at this
     omega
    have red:∀(R:Bool->Hp->Prop),R (zVc ch n) H''->tOr (zYe (fun σ H Q=>zFq 3 σ H fun x H'=>∃k,zRi K x H' k/\Q k H')) (zVp (tOp (rI0 fun i j=> .bl (decide (j < i))) (zFq 4) (tOp (yAv K) (zFq 3) (tUn (rU fun i=> .int (-i)) (tC (.int 1)))))) [some (V.ref ra),some (.ref na),some (.ref D),some (.ref rr),some (V.int (n:Int))] H'' R:=by
     intro R hR
     refine (zq rfl ⟨_,.inl ⟨_,SqL.of hrr',rfl⟩,?_⟩)
     rcases List.eq_nil_or_concat ch with rfl | ⟨ini,z,rfl⟩
     ·exact zE6 hR
     ·rw[List.concat_eq_append]at hR hrr' ⊢
      have em:(!(!((zEu (ini++ [z])).map V.int).isEmpty))=false:=by unfold zEu;simp
      rw[em]
      refine zG3 ?_
      have el:(zEu (ini++ [z])).map V.int=(zEu ini).map V.int++ [V.int (z:Int)]:=by unfold zEu;rw[List.map_append,List.map_append];rfl
      rw[el]at hrr'
      refine (zq rfl (zq rfl (zq rfl ⟨rr,_,_,(zq rfl ⟨rfl,SqL.of hrr',zRo _ _,_,(zq rfl ⟨rfl,(zq rfl ?_)⟩)⟩)⟩)))
      have eg:zVc (ini++ [z]) n=decide ((z:Int) < (n:Int)):=by
       unfold zVc
       rw[List.getLast?_append]
       simp
      rw[eg]at hR
      exact hR
    refine red _ ?_
    have ex:zQ9 (l.take (j+1)) ch=zQ9 (l.take j) ch++ (if zVc ch n=true then [ch++ [n]]else []):=by
     unfold zQ9
     rw[zBz hn,List.map_append]
     by_cases z:zVc ch n=true
     ·rw[if_pos z,if_pos z];rfl
     ·rw[if_neg z,if_neg z];rfl
    refine zD2 (fun z=>?_) fun z=>?_
    ·rw[if_pos z]at ex
     refine (zq rfl ⟨.inl ⟨rfl,_,SqL.of hq⟩,(zq rfl (zq rfl ⟨(by show 1<=sizeLine;decide),fun l1 hl1=>?_⟩))⟩)
     have sm1:Same H'' (upd H'' l1 (.lst [V.int (n:Int)])):=Same.upd hl1
     refine ⟨rr,l1,_,(zq rfl ⟨rfl,sm1 _ _ hrr',zAb,(by unfold zEu;rw[List.length_map,List.length_map];exact zEa (by show ch.length+1<=_;omega)),fun p hp=>?_⟩)⟩
     have sm2:Same H'' (upd (upd H'' l1 (.lst [V.int (n:Int)])) p (.lst ((zEu ch).map V.int++ [V.int (n:Int)]))):=sm1.trans (Same.upd hp)
     refine ⟨D,_,(zq rfl ⟨rfl,sm2 _ _ hq,zTc (by omega),?_⟩)⟩
     refine⟨some (.int (n:Int)),rfl,(e'.trans sm2).updR hD,_,zAb,?_⟩
     rw[ex,<-List.append_assoc,List.map_append]
     refine zNu (l:=zEu (ch++ [n])) e' hq dq sm2 (sm1.free hp) ?_
     rw[zAb]
     unfold zEu
     rw[List.map_append,List.map_append]
     rfl
    ·rw[if_neg z,List.append_nil]at ex
     rw[<-ex]at dq
     exact (zq rfl ⟨e',acc,hq,dq⟩)
   ·rintro σ H'' ⟨v4,rfl,e',acc,hq,dq⟩
    refine⟨some (.ref rr),v4,rfl,e',acc,hq,?_⟩
    have el:((zEu l).map V.int).length=l.length:=by unfold zEu;rw[List.length_map,List.length_map]
    rw[el,List.take_length]at dq
    rw[zA2 hch,List.flatMap_append]
    simpa using dq
  ·rintro σ H' ⟨v3,v4,rfl,e,acc,hq,dq⟩
   rw[hxl,List.take_length]at dq
   exact (zq rfl (k H' _ e (.lst (zAs hD hq) (dq.same wo_same))))
noncomputable abbrev yBm:Stmt:=top 56
theorem scn56:zAg ["numbers","as_great","sets","size"] ["numbers"] (zAc yBm):= fsc
noncomputable def yBn:Sp:=fun vs H Q _=>∃(v:V) (l:List Nat),vs= [v]/\Dm H v (zFj l)/\l.Pairwise (· < ·)/\l.length<=10/\∀H' v',Same H H'->Dm (mix A0 H H') v' (.list ((zB1 l l.length).map zFj))->Q v' H'
theorem zB7:∀(m:Nat) (l:List Nat),(Vametc.choose m l).length<=2 ^ l.length
 | 0,l=>by rw[zCu];exact Nat.one_le_two_pow
 | m+1,[]=>by show 0<=_;exact Nat.zero_le _
 | m+1,x::l=>by
  have e1:Vametc.choose (m+1) (x::l)=(Vametc.choose m l).map (fun k=>x::k) ++Vametc.choose (m+1) l:=rfl
  rw[e1,List.length_append,List.length_map,List.length_cons,Nat.pow_succ]
  have:=zB7 m l
  have:=zB7 (m+1) l
  omega
theorem zGz(l:List Nat)(n:Nat):zB1 l (n+1)=zB1 l n++Vametc.choose (n+1) l:=by
 unfold zB1
 rw[List.range_succ,List.flatMap_append]
 simp
theorem zGj(l:List Nat)(h:l.length<=10):∀n,(zB1 l n).length<=1024 * (n+1)
 | 0=>by
  unfold zB1
  have:=zB7 0 l
  have h2:2 ^ l.length<=2 ^ 10:=Nat.pow_le_pow_right (by decide) h
  simp
  omega
 | n+1=>by
  rw[zGz,List.length_append]
  have:=zGj l h n
  have:=zB7 (n+1) l
  have h2:2 ^ l.length<=2 ^ 10:=Nat.pow_le_pow_right (by decide) h
  omega
theorem zZ5{f f1:Addr}(F:DefAt K mg "sets_in_order" yBm f)(Bl:Blt mg)(m1:mg "one_more_each" =some (.ref f1))(C1:L2.Callee P w K mg base 1 f1 ["sets","numbers"] yBl):L2.Callee P w K mg base 2 f ["numbers"] yBn:=by
 refine F.callee0 scn56 (fun vs H Q E h=>?_) (fun _ _ _ _ _ _=>b1 fun _=>rfl) (fun cdv A outer s H vs Q E hr h=>?_)
 ·obtain⟨_,_,rfl,_⟩:=h
  rfl
 ·obtain⟨v,l,rfl,dv,hp,hl10,k⟩:=h
  obtain⟨na,rfl,hna⟩:=Dm.row_inv dv
  refine⟨_,zAe (zAq (i:=1) scn56.nd rfl (Or.inl rfl) (zA4 (zAa (zA4 zAd) zAd))) (zAe (zAq (i:=2) scn56.nd rfl (Or.inl rfl) (zA4 (zAa (zA4 zAd) zAd)))
   (zAe (zC9 PassesOwn.never rfl (zC1 rfl Bl.range (zAa (zAn zAk (by rfl) Bl.len PySem.boot_len (zAa (pv 0) zAd)) zAd)) (zAv (i:=3) scn56.nd rfl (Or.inl rfl))
    (zAe (zAq (i:=1) scn56.nd rfl (Or.inl rfl) (zAh (E:=E0) C1 hr (by rfl) m1 zAm (zAa (pv 1) (zAa (pv 0) zAd))))
     (zAf (zC8 (zFc PySem.F.plainAttrs_list PySem.F.slot_list_extend PySem.F.type_list_extend zDo (pv 2) (zAa (pv 1) zAd))))))
   (zAf (zAi (pv 2))))),?_⟩
  refine⟨(by show 0<=sizeLine;decide),fun e1 he1=>⟨(by show 1<=sizeLine;decide),fun l1 hl1=>?_⟩⟩
  refine⟨(by show 0<=sizeLine;decide),fun e2 he2=>⟨(by show 1<=sizeLine;decide),fun R hR=>?_⟩⟩
  generalize hH1:upd H e1 (.lst [])=H1 at hl1 he2 hR
  have sm1:Same H H1:=by rw[<-hH1];exact Same.upd he1
  have q1:H1 e1=some (.lst []):=by rw[<-hH1];exact zAb
  generalize hH2:upd H1 l1 (.lst [.ref e1])=H2 at he2 hR
  have sm2:Same H1 H2:=by rw[<-hH2];exact Same.upd hl1
  have q2:H2 l1=some (.lst [.ref e1]):=by rw[<-hH2];exact zAb
  generalize hH3:upd H2 e2 (.lst [])=H3 at hR
  have sm3:Same H2 H3:=by rw[<-hH3];exact Same.upd he2
  have q3:H3 e2=some (.lst []):=by rw[<-hH3];exact zAb
  have sm4:Same H3 (upd H3 R (.lst [.ref e2])):=Same.upd hR
  have sm:Same H (upd H3 R (.lst [.ref e2])):=((sm1.trans sm2).trans sm3).trans sm4
  have fR:H R=none:=((sm1.trans sm2).trans sm3).free hR
  have f1:H e1=none:=he1
  have f2:H e2=none:=(sm1.trans sm2).free he2
  have fl1:H l1=none:=sm1.free hl1
  have p1:H3 l1=some (.lst [.ref e1]):=sm3 _ _ q2
  have p2:H3 e1=some (.lst []):=sm3 _ _ (sm2 _ _ q1)
  have dl:Dm (wo (mix A0 H (upd H3 R (.lst [.ref e2]))) R) (.ref l1) (.list ((Vametc.choose 0 l).map zFj)):=by
   rw[zCu]
   refine .lst (xs:=[.ref e1]) ?_ (.cons (.lst (xs:=[]) ?_ .nil) .nil)
   ·rw[zEj (zAo p1 hR),zA7 fl1];exact sm4 _ _ p1
   ·rw[zEj (zAo p2 hR),zA7 f1];exact sm4 _ _ p2
  have dr:DmAll (wo (mix A0 H (upd H3 R (.lst [.ref e2]))) R) [.ref e2] ((zB1 l 0).map zFj):=by
   have:zB1 l 0= [[]]:=by unfold zB1;simp[zCu]
   rw[this]
   refine .cons (.lst (xs:=[]) ?_ .nil) .nil
   rw[zEj (zAo q3 hR),zA7 f2];exact sm4 _ _ q3
  refine (zq rfl ⟨na,(zq rfl ⟨.inl (SqL.of (sm _ _ hna)),(zq rfl ⟨(by unfold zEu;rw[List.length_map,List.length_map];omega),(by unfold zEu;rw[List.length_map,List.length_map];omega),?_⟩)⟩)⟩)
  have el:(((zEu l).map V.int).length:Int).toNat=l.length:=by unfold zEu;rw[List.length_map,List.length_map,Int.toNat_natCast]
  rw[el]
  refine zFr (n:=l.length) (fun i σ H'=>∃(al:V) (v:Option V),σ= [some (.ref na),some al,some (.ref R),v]/\Same H H'/\Dm (wo (mix A0 H H') R) al (.list ((Vametc.choose i l).map zFj))/\∃acc,H' R=some (.lst acc)/\DmAll (wo (mix A0 H H') R) acc ((zB1 l i).map zFj))
   ⟨.ref l1,none,rfl,sm,dl,_,zAb,dr⟩ ?_ ?_
  ·rintro i σ H' hi ⟨al,v,rfl,e,dal,acc,hq,dq⟩
   have p10:2 ^ l.length<=2 ^ 10:=Nat.pow_le_pow_right (by decide) hl10
   have hc:=zB7 i l
   have hc2:=zB7 (i+1) l
   have ha:=zGj l hl10 i
   refine (zq rfl (zq rfl ⟨wo (mix A0 H H') R,al,_,Vametc.choose i l,l,rfl,wo_same.trans (zBs zBv e),dal,dv.same e,fun r hr=>?_,(by omega),hl10,fun H2 v2 e2 dv2=>?_⟩))
   ·rw[(zCt i l r hr).1];omega
   rw[zFa l hp i]at dv2
   have dv3:Dm (wo (mix A0 H H2) R) v2 (.list ((Vametc.choose (i+1) l).map zFj)):=dv2.same (zP9 e e2 (by rw[hq];rfl))
   obtain⟨a2,xs2,rfl,ha2,hx2⟩:=Dm.list_inv dv3
   have ha2':H2 a2=some (.lst xs2):=(wo_same.trans (zBs zBv (e.trans e2))) _ _ ha2
   have hq2:=e2 _ _ hq
   have hlen:acc.length+xs2.length<=20000:=by
    have l1:=dq.length
    have l2:=hx2.length
    rw[List.length_map]at l1 l2
    omega
   refine (zq rfl ⟨.inl ⟨rfl,_,SqL.of hq2⟩,(zq rfl ⟨R,a2,acc,xs2,rfl,rfl,hq2,ha2',zEa (by omega),?_⟩)⟩)
   refine⟨.ref a2,some (.int (0+ (i:Int))),rfl,(e.trans e2).updR fR,?_,_,zAb,?_⟩
   ·rw[zCv];exact dv3
   ·rw[zCv,zGz,List.map_append]
    exact(dq.same (Same.wo (zCz e2))).append hx2
  ·rintro σ H' ⟨al,v,rfl,e,dal,acc,hq,dq⟩
   exact (zq rfl (k H' _ e (.lst (zAs fR hq) (dq.same wo_same))))
end
theorem zSr(n:Nat)(ch:List Nat):decide ((n:Int)∈zEu ch)=decide (n∈ch):=by
 rw[Bool.eq_iff_iff,decide_eq_true_iff,decide_eq_true_iff]
 unfold zEu
 constructor
 ·intro h
  obtain⟨m,hm,e⟩:=List.mem_map.mp h
  have e:(m:Int)=n:=e
  rw[show n=m by omega];exact hm
 ·intro h
  exact List.mem_map.mpr ⟨n,h,rfl⟩
theorem zEv(ch:List Nat):(zEu ch).length=ch.length:=by unfold zEu;rw[List.length_map]
noncomputable def zL1(ch ms:List Nat):Bool:=ms.any fun n=>decide (n∈ch)
noncomputable def yBo(ds:List WData)(d:WData):Prop:=∃ch ms:List Nat,ds= [zFj ch,zFj ms]/\ms.length<=1000/\d= .bool (zL1 ch ms)
noncomputable def zUw(ds:List WData)(d:WData):Prop:=∃(ch:List Nat) (mss:List (List Nat)),ds= [zFj ch,.list (mss.map zFj)]/\(∀ms∈mss,ms.length<=1000)/\mss.length<=1000/\d= .bool (mss.all (zL1 ch))
section
variable {P:Program} {w:World} {K:PySem.W.Frag} {mg:Str->Option Value} {base:Heap}
noncomputable abbrev zZ6:Stmt:=top 57
theorem scn57:zAg ["chosen","missed","number"] ["chosen","missed"] (zAc zZ6):= fsc
theorem zZ7{f:Addr}(F:DefAt K mg "has_one_of" zZ6 f)(B:Blt mg):L2.Callee P w K mg base 1 f ["chosen","missed"] (zAx yBo):=by
 refine F.callee0 scn57 (zD4 rfl fun ds d ⟨c,c',e,_⟩=>by rw[e];rfl) (fun _ _ _ _ _ _=>b2 fun _ _=>rfl) (fun cdv A outer s H vs Q E hr h=>?_)
 obtain⟨Ar,ds,d,sA,hd,⟨ch,ms,rfl,hl,rfl⟩,k⟩:=h
 cases hd with
 | cons h1 h2=>
 cases h2 with
 | cons h2 h3=>
 cases h3
 obtain⟨ca,rfl,hca⟩:=Dm.row_inv h1
 obtain⟨ma,rfl,hma⟩:=Dm.row_inv h2
 have hca:=sA _ _ hca
 have hma:=sA _ _ hma
 refine⟨_,zAf (zAi (zAn (zVx rfl) (by rfl) B.any boot_any (zAa (zEh (own:=[("number",2)]) (te:=tOp (rIn K false) (zFq 2) (zFq 0)) rfl scn57.nd (zBo (pv 1)) (show zCf ["chosen","missed","number"] (zAc zZ6) _ [("number",2)]from bok)
  (fun s H C cl fp=>zAv (i:=2) scn57.nd rfl (Or.inl rfl)) (fun s H C cl fp=>zB2) (fun s H C cl fp=>zBd zFt (pv 2) (pv 0) (by with_unfolding_all rfl))) zAd))),?_⟩
 refine (zq rfl ⟨ma,rfl,⟨_,SqL.of hma⟩,fun D hD=>?_⟩)
 refine zD0 (xs:=(zEu ms).map V.int) (fun j H'=>Same H H'/\H' D=some (.lst (((ms.take j).map fun n=>decide (n∈ch)).map V.bl))) ⟨Same.upd hD,zAb⟩ (fun j H' _ h=>SqL.of (h.1 _ _ hma)) (fun j x H' hx h=>?_) (fun H' h=>?_)
 ·obtain⟨e1,hq⟩:=h
  unfold zEu at hx
  rw[List.map_map]at hx
  obtain⟨n,hn,rfl⟩:=zCs hx
  refine⟨rfl,?_⟩
  simp only [zNb,if_true]
  refine (zq rfl (zq rfl ⟨ca,(zq rfl ⟨.inl (SqL.of (e1 _ _ hca)),rfl,zDb _,_,hq,?_,e1.updR hD,?_⟩)⟩))
  ·rw[List.length_map,List.length_map,List.length_take]
   exact zCg (by omega)
  ·rw[if_neg Bool.false_ne_true]
   show upd H' D (.lst (_++ [V.bl (inV (.int (n:Int)) ((zEu ch).map V.int))])) D= _
   rw[zAb,zF5,zSr,zA2 hn,List.map_append,List.map_append]
   rfl
 ·obtain⟨e1,hq⟩:=h
  rw[List.length_map,zEv,List.take_length]at hq
  refine ⟨D,(zq rfl ⟨SqL.of hq,k H' _ e1 ?_⟩)⟩
  rw[List.any_map]
  exact .bl _
noncomputable abbrev zZ8:Stmt:=top 58
theorem scn58:zAg ["chosen","missed_by_each","missed"] ["chosen","missed_by_each"] (zAc zZ8):= fsc
theorem zZ9{f f1:Addr}(F:DefAt K mg "has_one_of_each" zZ8 f)(B:Blt mg)(m1:mg "has_one_of" =some (.ref f1))(C1:L2.Callee P w K mg base 1 f1 ["chosen","missed"] (zAx yBo)):L2.Callee P w K mg base 2 f ["chosen","missed_by_each"] (zAx zUw):=by
 refine F.callee0 scn58 (zD4 rfl fun ds d ⟨c,c',e,_⟩=>by rw[e];rfl) (fun _ _ _ _ _ _=>b2 fun _ _=>rfl) (fun cdv A outer s H vs Q E hr h=>?_)
 obtain⟨Ar,ds,d,sA,hd,⟨ch,mss,rfl,hms,hl,rfl⟩,k⟩:=h
 cases hd with
 | cons h1 h2=>
 cases h2 with
 | cons h2 h3=>
 cases h3
 obtain⟨ma,xs,rfl,hma,hxs⟩:=Dm.list_inv h2
 refine⟨_,zAf (zAi (zAn (zS4 rfl) (by rfl) B.all boot_all (zAa (zEh (own:=[("missed",2)]) rfl scn58.nd (zBo (pv 1)) (show zCf ["chosen","missed_by_each","missed"] (zAc zZ8) _ [("missed",2)]from bok)
  (fun s H C cl fp=>zAv (i:=2) scn58.nd rfl (Or.inl rfl)) (fun s H C cl fp=>zB2) (fun s H C cl fp=>zAh (E:=E0) C1 hr (by rfl) m1 zAm (zAa (pv 0) (zAa (pv 2) zAd)))) zAd))),?_⟩
 refine (zq rfl ⟨ma,rfl,⟨_,SqL.of (sA _ _ hma)⟩,fun D hD=>zR7 (ds:=mss.map zFj) (es:=mss.map fun ms=> .bool (zL1 ch ms)) sA (sA _ _ hma) hxs (by rw[List.length_map,List.length_map]) hD (by rw[List.length_map];omega) (fun x=>rfl) (fun j x d e A' H' R hj he q1 q2 q3 dx' kk=>?_) (fun H2 sm2 dv=>?_)⟩)
 ·obtain⟨ms,hj0,rfl⟩:=zCs hj
  obtain⟨ms',he0,rfl⟩:=zCs he
  obtain rfl:ms=ms':=Option.some.inj (hj0.symm.trans he0)
  exact (zq rfl (zq rfl ⟨A',_,_,q2,.cons (h1.same q1) (.cons (dx'.same q1) .nil),⟨ch,ms,rfl,hms ms (List.mem_of_getElem? hj0),rfl⟩,fun H3 v e2 dv=>kk H3 v e2 dv⟩))
 ·have dv2:=dv.same (zBs sA sm2)
  obtain⟨a,ys,e,ha,hy⟩:=Dm.list_inv dv2
  cases e
  have ey:ys=(mss.map (zL1 ch)).map V.bl:=zNl _ _ (by rw[List.map_map];exact hy)
  rw[ey]at ha
  refine ⟨D,(zq rfl ⟨SqL.of ha,k H2 _ sm2 ?_⟩)⟩
  rw[List.all_map]
  exact .bl _
noncomputable abbrev zYc:Stmt:=top 59
theorem scn59:zAg ["numbers","missed_by_each","missed","to_tell","chosen","telling"] ["numbers","missed_by_each"] (zAc zYc):= fsc
noncomputable def yBp:Sp:=fun vs H Q _=>∃(v u:V) (l r:List Nat) (mss:List (List Nat)),vs= [v,u]/\Dm H v (zFj l)/\Dm H u (.list (mss.map zFj))/\l.Pairwise (· < ·)/\l.length<=10/\(∀ms∈mss,ms.length<=1000)/\mss.length<=1000/\(zB1 l l.length).find? (zIf mss)=some r/\
 ∀H' v',Same H H'->Dm H' v' (zFj r)->Q v' H'
theorem zQs{α:Type}{p:α->Bool}{l:List α}{r:α}(h:l.find? p=some r):(l.filter p)[0]? =some r:=by
 induction l with
 | nil=>cases h
 | cons a l ih=>
  rw[List.find?_cons]at h
  rw[List.filter_cons]
  cases q:p a with
  | true=>rw[q]at h;cases h;rfl
  | false=>rw[q]at h;rw[if_neg Bool.false_ne_true];exact ih h
noncomputable def tTr(K:PySem.W.Frag):TT:=fun σ H Q=>zFq 2 σ H fun x H'=>∃k,zRi K x H' k/\Q k H'
noncomputable def tTl(K:PySem.W.Frag):TT:=fun σ H Q=>zI5 (zAx zUw) E0 (zEb (zFq 4) (zEb (zFq 3) zMk)) σ H fun x H'=>∃k,zRi K x H' k/\Q k H'
theorem yAa{f f1 f2:Addr}(F:DefAt K mg "least_set" zYc f)(m1:mg "sets_in_order" =some (.ref f1))(C1:L2.Callee P w K mg base 2 f1 ["numbers"] yBn)(m2:mg "has_one_of_each" =some (.ref f2))(C2:L2.Callee P w K mg base 2 f2 ["chosen","missed_by_each"] (zAx zUw)):
  L2.Callee P w K mg base 3 f ["numbers","missed_by_each"] yBp:=by
 refine F.callee0 scn59 (fun vs H Q E h=>?_) (fun _ _ _ _ _ _=>b2 fun _ _=>rfl) (fun cdv A outer s H vs Q E hr h=>?_)
 ·obtain⟨_,_,_,_,_,rfl,_⟩:=h
  rfl
 ·obtain⟨v,u,l,r,mss,rfl,dv,du,hp,hl10,hms,hml,hfind,k⟩:=h
  obtain⟨ma,xs,rfl,hma,hxs⟩:=Dm.list_inv du
  have hxl:xs.length=mss.length:=by rw[hxs.length,List.length_map]
  refine⟨_,zAe (zAq (i:=3) scn59.nd rfl (Or.inr rfl) (zEh (own:=[("missed",2)]) (tt:=tTr K) rfl scn59.nd (zBo (pv 1)) (show zCf ["numbers","missed_by_each","missed","to_tell","chosen","telling"] (zAc zYc) _ [("missed",2)]from bok)
    (fun s H C cl fp=>zAv (i:=2) scn59.nd rfl (Or.inl rfl)) (fun s H C cl fp=>zGe (zBb (pv 2) (fun _=>rfl))) (fun s H C cl fp=>pv 2)))
   (zAe (zG9 (i:=5) (own:=[("chosen",4)]) (tt:=tTl K) rfl scn59.nd rfl rfl (zHy rfl rfl (by rfl) (by decide +kernel)) (zBo (zAh (E:=E0) C1 hr (by rfl) m1 zAm (zAa (pv 0) zAd))) (show zCf ["numbers","missed_by_each","missed","to_tell","chosen","telling"] (zAc zYc) _ [("chosen",4)]from bok)
    (fun s H C cl fp=>zAv (i:=4) scn59.nd rfl (Or.inl rfl)) (fun s H C cl fp=>zGe (zBb (zAh (E:=E0) C2 hr (by rfl) m2 zAm (zAa (pv 4) (zAa (pv 3) zAd))) (fun _=>rfl))) (fun s H C cl fp=>pv 4))
   (zAf (zAi (zBi zBj (pv 5) zAp (fun _ _=>rfl))))),?_⟩
  refine (zq rfl ⟨ma,rfl,⟨_,SqL.of hma⟩,fun D hD=>?_⟩)
  refine zD0 (xs:=xs) (fun j H'=>Same H H'/\∃acc,H' D=some (.lst acc)/\DmAll H acc (((mss.take j).filter fun m=>!m.isEmpty).map zFj)) ⟨Same.upd hD,[],zAb,.nil⟩ (fun j H' _ h=>SqL.of (h.1 _ _ hma)) (fun j x H' hx h=>?_) (fun H1 h=>?_)
  ·obtain⟨e1,acc,hq,dq⟩:=h
   obtain⟨d,hd,dx⟩:=hxs.get hx
   obtain⟨ms,hj,rfl⟩:=zCs hd
   have dx0:=dx
   obtain⟨a,rfl,ha⟩:=Dm.row_inv dx
   refine⟨rfl,?_⟩
   refine (zq rfl ⟨_,.inl ⟨_,SqL.of (e1 _ _ ha),rfl⟩,?_⟩)
   have eb:(!((zEu ms).map V.int).isEmpty)= !ms.isEmpty:=by unfold zEu;cases ms <;> rfl
   rw[eb,zBz hj]
   refine zD2 (fun z=>?_) fun z=>?_
   ·rw[if_pos z]
    refine (zq rfl ⟨_,hq,?_,e1.updR hD,_,zAb,?_⟩)
    ·rw[dq.length,List.length_map]
     refine zCg (Nat.le_trans (List.length_filter_le _ _) ?_)
     rw[List.length_take];omega
    ·rw[List.map_append]
     exact dq.snoc dx0
   ·rw[if_neg z,List.append_nil]
    exact⟨e1,acc,hq,dq⟩
  obtain⟨e1,acc,hq,dq⟩:=h
  rw[hxl,List.take_length]at dq
  generalize htt:(mss.filter fun m=>!m.isEmpty)=tt at dq
  have ht1:∀ms∈tt,ms.length<=1000:=fun ms h=>hms ms (by rw[<-htt]at h;exact(List.mem_filter.mp h).1)
  have ht2:tt.length<=1000:=by rw[<-htt];exact Nat.le_trans (List.length_filter_le _ _) hml
  have dD:Dm H1 (.ref D) (.list (tt.map zFj)):= .lst hq (dq.same e1)
  refine (zq rfl ⟨v,l,rfl,dv.same e1,hp,hl10,fun H2 v2 e2 d2=>?_⟩)
  obtain⟨sa,ss,rfl,hsa,hss⟩:=Dm.list_inv (d2.same (zBs zBv e2))
  have hsl:ss.length=(zB1 l l.length).length:=by rw[hss.length,List.length_map]
  have hal:=zGj l hl10 l.length
  have hal2:(zB1 l l.length).length<=20000:=by omega
  generalize hAS:zB1 l l.length=AS at hss hsl hal2 hfind
  refine⟨sa,rfl,⟨_,SqL.of hsa⟩,fun D2 hD2=>?_⟩
  refine zD0 (xs:=ss) (fun j H'=>Same H2 H'/\∃acc,H' D2=some (.lst acc)/\DmAll H2 acc (((AS.take j).filter (zIf mss)).map zFj)) ⟨Same.upd hD2,[],zAb,.nil⟩ (fun j H' _ h=>SqL.of (h.1 _ _ hsa)) (fun j x H' hx h=>?_) (fun H3 h=>?_)
  ·obtain⟨e3,acc,hq3,dq3⟩:=h
   obtain⟨d,hd,dx⟩:=hss.get hx
   obtain⟨ch,hj,rfl⟩:=zCs hd
   refine⟨rfl,?_⟩
   refine (zq rfl (zq rfl ⟨H2,_,_,e3,.cons dx (.cons (dD.same e2) .nil),⟨ch,tt,rfl,ht1,ht2,rfl⟩,fun H4 v4 e4 d4=>?_⟩))
   obtain rfl:=Dm.bl_inv d4
   refine (zq rfl ?_)
   have et:tt.all (zL1 ch)=zIf mss ch:=by rw[<-htt];rfl
   rw[et,zBz hj]
   refine zD2 (fun z=>?_) fun z=>?_
   ·rw[if_pos z]
    refine (zq rfl ⟨_,e4 _ _ hq3,?_,(e3.trans e4).updR hD2,_,zAb,?_⟩)
    ·rw[dq3.length,List.length_map]
     refine zCg (Nat.le_trans (List.length_filter_le _ _) ?_)
     rw[List.length_take];omega
    ·rw[List.map_append]
     exact dq3.snoc dx
   ·rw[if_neg z,List.append_nil]
    exact⟨e3.trans e4,acc,e4 _ _ hq3,dq3⟩
  obtain⟨e3,acc3,hq3,dq3⟩:=h
  rw[hsl,List.take_length]at dq3
  obtain⟨z,hz,dz⟩:=dq3.at (i:=0) (d:=zFj r) (by rw[List.getElem?_map,zQs hfind];rfl)
  refine (zq rfl ⟨D2,_,_,(zq rfl ⟨rfl,SqL.of hq3,zAw (j:=0) hz,?_⟩)⟩)
  exact k H3 z ((e1.trans e2).trans e3) (dz.same e3)
end
noncomputable def zUx(R:WData->zC0->Prop):Sp:=fun vs H Q _=>∃(v:V) (d:WData) (l:zC0),vs= [v]/\Dm H v d/\R d l/\∀H' p,Same H H'->H p=none->H' p=some (.lst (l.map V.int))->Q (.ref p) H'
theorem zKc{R:WData->zC0->Prop}:∀vs H Q E,zUx R vs H Q E->vs.length=1:=fun vs H Q E ⟨_,_,_,h,_⟩=>by rw[h];rfl
noncomputable def RSn(d:WData)(l:zC0):Prop:=∃s:zDp,d=zEl s/\l=VametBase.flatStep s
noncomputable def RPn(d:WData)(l:zC0):Prop:=∃p:zBc,d=zBt p/\p.length<=8/\l=VametBase.flatProgram p
noncomputable def RCn(d:WData)(l:zC0):Prop:=∃c:zDd,d=zDq c/\l=VametBase.flatCond c
theorem zQt(s:zDp):VametBase.flatStep s=match zGw (zAy s)with
  | none=>[(zAy s:Int)]
  | some _=>[(zAy s:Int),zCo s]:=by cases s <;> rfl
theorem zF6(s:zDp):(VametBase.flatStep s).length<=2:=by cases s <;> simp[VametBase.flatStep]
section
variable {P:Program} {w:World} {K:PySem.W.Frag} {mg:Str->Option Value} {base:Heap} {CR fR0:Addr}
noncomputable abbrev zWo:Stmt:=top 112
theorem zWp:zAg ["step"] ["step"] (zAc zWo):= fsc
theorem zWq{f aV:Addr}{vals:List V}(F:DefAt K mg "step_as_numbers" zWo f)(Vs:zQj K mg aV vals):L2.Callee P w K mg base 1 f ["step"] (zUx RSn):=by
 refine F.callee0 zWp zKc (fun _ _ _ _ _ _=>b1 fun _=>rfl) (fun cdv A outer s H vs Q E hr h=>?_)
 obtain⟨v,d,l,rfl,dv,⟨st,rfl,rfl⟩,k⟩:=h
 obtain⟨T,rfl,hT⟩:=Dm.pair_inv dv
 have hT:=SqT.of (K:=K) hT
 obtain⟨z,hz⟩:=zDh (l:=vals) (i:=zAy st) (by rw[Vs.len];exact zI7 st)
 have hok:=Vs.ok _ _ hz
 have at0:atI [V.int (zAy st:Int),V.int (zCo st)] 0=some (V.int (zAy st:Int)):=zAw (j:=0) rfl
 have at1:atI [V.int (zAy st:Int),V.int (zCo st)] 1=some (V.int (zCo st)):=zAw (j:=1) rfl
 refine⟨_,zAf (zAi (zDf (zA6 zIw (zBi zBx (zAr (v:= .ref aV) (by rfl) Vs.gl rfl) (zBi zBx (pv 0) zAp (fun _ _=>rfl)) (fun _ _=>rfl)) zE2 (zA0 _))
  (zA4 (zAa (zBi zBx (pv 0) zAp (fun _ _=>rfl)) zAd)) (zA4 (zAa (zBi zBx (pv 0) zAp (fun _ _=>rfl)) (zAa (zBi zBx (pv 0) zAp (fun _ _=>rfl)) zAd))))),?_⟩
 refine (zq rfl ⟨T,_,_,(zq rfl ⟨rfl,hT,at0,aV,_,_,(zq rfl ⟨rfl,Vs.tup _,zAw hz,rfl,(zq rfl ?_)⟩)⟩)⟩)
 rw[zQt]at k
 cases hlm:zGw (zAy st)with
 | none=>
  rw[hlm]at hok k
  have hok:z= .non:=hok
  subst hok
  refine zE6 ?_
  exact (zq rfl ⟨T,_,_,(zq rfl ⟨rfl,hT,at0,(by show 1<=sizeLine;decide),fun p hp=>k _ p (Same.upd hp) hp zAb⟩)⟩)
 | some ab=>
  rw[hlm]at hok k
  obtain⟨t,rfl,_⟩:∃t,z= .ref t/\∀H:Hp,SqT K H t [.int ab.1,.int ab.2]:=hok
  refine zG3 ?_
  exact (zq rfl ⟨T,_,_,(zq rfl ⟨rfl,hT,at0,(zq rfl ⟨T,_,_,(zq rfl ⟨rfl,hT,at1,(by show 2<=sizeLine;decide),fun p hp=>k _ p (Same.upd hp) hp zAb⟩)⟩)⟩)⟩)
noncomputable abbrev zWr:Stmt:=top 113
theorem scn113:zAg ["program","numbers","step"] ["program"] (zAc zWr):= fsc
theorem zQu{p:zBc}{i:Nat}{s:zDp}(h:p[i]? =some s):(p.take (i+1)).flatMap VametBase.flatStep=(p.take i).flatMap VametBase.flatStep++VametBase.flatStep s:=by
 rw[zA2 h,List.flatMap_append]
 simp
theorem zFk:∀p:zBc,(p.flatMap VametBase.flatStep).length<=2 * p.length
 | []=>by simp
 | s::p=>by
  rw[List.flatMap_cons,List.length_append,List.length_cons]
  have:=zFk p
  have:=zF6 s
  omega
theorem zWs{f f1:Addr}(F:DefAt K mg "program_as_numbers" zWr f)(Bl:Blt mg)(m1:mg "step_as_numbers" =some (.ref f1))(C1:L2.Callee P w K mg base 1 f1 ["step"] (zUx RSn)):L2.Callee P w K mg base 2 f ["program"] (zUx RPn):=by
 refine F.callee0 scn113 zKc (fun _ _ _ _ _ _=>b1 fun _=>rfl) (fun cdv A outer s H vs Q E hr h=>?_)
 obtain⟨v,d,l,rfl,dv,⟨p,rfl,hp8,rfl⟩,k⟩:=h
 obtain⟨pa,ps,rfl,hpa,hps⟩:=Dm.tup_inv (ds:=p.map zEl) dv
 have hpl:ps.length=p.length:=by rw[hps.length,List.length_map]
 refine⟨_,zAe (zAq (i:=1) scn113.nd rfl (Or.inl rfl) (zA4 (zAa (zAn zAk (by rfl) Bl.len PySem.boot_len (zAa (pv 0) zAd)) zAd)))
  (zAe (zC9 PassesOwn.never rfl (zS0 (pv 0)) (zAv (i:=2) scn113.nd rfl (Or.inl rfl))
   (zAf (zC8 (zFc PySem.F.plainAttrs_list PySem.F.slot_list_extend PySem.F.type_list_extend zDo (pv 1) (zAa (zAh (E:=E0) C1 hr (by rfl) m1 zAm (zAa (pv 2) zAd)) zAd)))))
  (zAf (zAi (pv 1)))),?_⟩
 refine (zq rfl ⟨pa,(zq rfl ⟨.inr (SqT.of hpa),(by show 1<=sizeLine;decide),fun D hD=>?_⟩)⟩)
 rw[hpl]
 refine⟨_,rfl,pa,rfl,⟨_,SqT.of (Same.upd hD _ _ hpa)⟩,zPj (K:=K) (a:=pa) (xs:=ps) (fun i σ H'=>∃v2,σ= [some (.ref pa),some (.ref D),v2]/\Same H H'/\H' D=some (.lst (((p.length:Int)::(p.take i).flatMap VametBase.flatStep).map V.int)))
  ⟨none,rfl,Same.upd hD,zAb⟩ (fun i σ H' _ ⟨_,_,e,_⟩=>SqT.of (e _ _ hpa)) ?_ ?_⟩
 ·rintro i y σ H' hi ⟨v2,rfl,e,hq⟩
  obtain⟨d,hdi,dy⟩:=hps.get hi
  obtain⟨st,hst,rfl⟩:=zCs hdi
  refine (zq rfl ⟨.inl ⟨rfl,_,SqL.of hq⟩,(zq rfl ⟨y,_,(zq rfl ⟨dy.same e,⟨st,rfl,rfl⟩,fun H2 a2 e2 ha ha2=>?_⟩)⟩)⟩)
  have hle:=zFk (p.take i)
  rw[List.length_take]at hle
  have hl2:=zF6 st
  refine ⟨D,a2,_,(zq rfl ⟨rfl,e2 _ _ hq,ha2,?_,?_⟩)⟩
  ·rw[List.length_map,List.length_map,List.length_cons]
   exact zEa (by omega)
  ·refine (zq rfl ⟨(e.trans e2).updR hD,?_⟩)
   rw[zAb,zQu hst,<-List.map_append]
   rfl
 ·rintro σ H' ⟨v2,rfl,e,hq⟩
  rw[hpl,List.take_length]at hq
  exact (zq rfl (k H' D e hD hq))
noncomputable abbrev zWt:Stmt:=top 114
theorem zWu:zAg ["condition"] ["condition"] (zAc zWt):= fsc
theorem zWv{f:Addr}(F:DefAt K mg "condition_as_numbers" zWt f)(c5:zDc mg "CONDITION_WITH_COUNT" 5):L2.Callee P w K mg base 1 f ["condition"] (zUx RCn):=by
 obtain⟨t5,c5⟩:=c5
 refine F.callee0 zWu zKc (fun _ _ _ _ _ _=>b1 fun _=>rfl) (fun cdv A outer s H vs Q E hr h=>?_)
 obtain⟨v,d,l,rfl,dv,⟨c,rfl,rfl⟩,k⟩:=h
 obtain⟨T,rfl,hT⟩:=Dm.pair_inv dv
 have hT:=SqT.of (K:=K) hT
 have at0:atI [V.int (zBa c:Int),V.int (zCp c)] 0=some (V.int (zBa c:Int)):=zAw (j:=0) rfl
 have at1:atI [V.int (zBa c:Int),V.int (zCp c)] 1=some (V.int (zCp c)):=zAw (j:=1) rfl
 refine⟨_,zAf (zAi (zDf (zA6 zIh (zBi zBx (pv 0) zAp (fun _ _=>rfl)) (zAr (v:= .int 5) (by rfl) c5 ⟨t5,rfl⟩) (zA0 _))
  (zA4 (zAa (zBi zBx (pv 0) zAp (fun _ _=>rfl)) (zAa (zBi zBx (pv 0) zAp (fun _ _=>rfl)) zAd))) (zA4 (zAa (zBi zBx (pv 0) zAp (fun _ _=>rfl)) zAd)))),?_⟩
 refine (zq rfl ⟨T,_,_,(zq rfl ⟨rfl,hT,at0,rfl,(zq rfl ?_)⟩)⟩)
 refine zD2 (fun e=>?_) fun e=>?_
 ·obtain⟨j,rfl⟩:∃j,c= .atLeast j:=by
   have e:=of_decide_eq_true e
   cases c <;> first | exact⟨_,rfl⟩ | (exact absurd e (by simp[zBa]))
  exact (zq rfl ⟨T,_,_,(zq rfl ⟨rfl,hT,at0,(zq rfl ⟨T,_,_,(zq rfl ⟨rfl,hT,at1,(by show 2<=sizeLine;decide),fun p hp=>k _ p (Same.upd hp) hp zAb⟩)⟩)⟩)⟩)
 ·have n5:∀j,c≠.atLeast j:=fun j z=>e (by rw[z];rfl)
  have fe:VametBase.flatCond c= [(zBa c:Int)]:=by cases c <;> first | rfl | exact absurd rfl (n5 _)
  rw[fe]at k
  exact (zq rfl ⟨T,_,_,(zq rfl ⟨rfl,hT,at0,(by show 1<=sizeLine;decide),fun p hp=>k _ p (Same.upd hp) hp zAb⟩)⟩)
noncomputable abbrev zWw:Stmt:=top 115
theorem scn115:zAg ["relation","numbers"] ["relation"] (zAc zWw):= fsc
noncomputable def yBq(CR:Addr):Sp:=fun vs H Q _=>∃(v:V) (r:VametBase.Relation),vs= [v]/\RelAt CR H v r/\zL0 r/\∀H' p,Same H H'->H p=none->H' p=some (.lst ((VametBase.flatRelation r).map V.int))->Q (.ref p) H'
theorem zG0{p:zBc}(h:zBy p):(VametBase.flatProgram p).length<=17:=by
 unfold VametBase.flatProgram
 rw[List.length_cons]
 have:=zFk p
 have:=h.1
 omega
theorem zOw(r:zO6):VametBase.relNumber r=(zBu r:Int):=by cases r <;> rfl
theorem zWx{f f1 f2:Addr}(F:DefAt K mg "relation_as_numbers" zWw f)(B:zGy K mg CR fR0)(m1:mg "condition_as_numbers" =some (.ref f1))(C1:L2.Callee P w K mg base 1 f1 ["condition"] (zUx RCn))(m2:mg "program_as_numbers" =some (.ref f2))(C2:L2.Callee P w K mg base 2 f2 ["program"] (zUx RPn)):
  L2.Callee P w K mg base 3 f ["relation"] (yBq CR):=by
 refine F.callee0 scn115 (fun vs H Q E h=>?_) (fun _ _ _ _ _ _=>b1 fun _=>rfl) (fun cdv A outer s H vs Q E hr h=>?_)
 ·obtain⟨_,_,rfl,_⟩:=h
  rfl
 ·obtain⟨v,r,rfl,⟨a,dx,c,i,o,rfl,ha,dc,di,do_⟩,okr,k⟩:=h
  have hr1:Room 1 _:=hr.mono (by decide)
  refine⟨_,zAe (zAq (i:=1) scn115.nd rfl (Or.inl rfl) (zAh (E:=E0) C1 hr1 (by rfl) m1 zAm (zAa (zAl (pv 0) rfl) zAd)))
   (zAe (zC8 (zFc PySem.F.plainAttrs_list PySem.F.slot_list_extend PySem.F.type_list_extend zDo (pv 1) (zAa (zAh (E:=E0) C2 hr (by rfl) m2 zAm (zAa (zAl (pv 0) rfl) zAd)) zAd)))
   (zAe (zC8 (zFc PySem.F.plainAttrs_list PySem.F.slot_list_append PySem.F.type_list_append zEf (pv 1) (zAa (zAl (pv 0) rfl) zAd)))
   (zAe (zC8 (zFc PySem.F.plainAttrs_list PySem.F.slot_list_extend PySem.F.type_list_extend zDo (pv 1) (zAa (zAh (E:=E0) C2 hr (by rfl) m2 zAm (zAa (zAl (pv 0) rfl) zAd)) zAd)))
   (zAf (zAi (pv 1)))))),?_⟩
  have l1:=zG0 okr.1
  have l2:=zG0 okr.2
  have l0:(VametBase.flatCond r.cond).length<=2:=by cases r.cond <;> simp[VametBase.flatCond]
  refine (zq rfl (zf ha B.cl B.n1 (zSe _ _ _ _) ⟨_,_,(zq rfl ⟨dc,⟨r.cond,rfl,rfl⟩,fun H1 D e1 hD h1=>?_⟩)⟩))
  refine (zq rfl ⟨.inl ⟨rfl,_,SqL.of h1⟩,(zq rfl (zf (e1 _ _ ha) B.cl B.n2 (zSf _ _ _ _) ⟨_,_,(zq rfl ⟨di.same e1,⟨r.input,rfl,okr.1.1,rfl⟩,fun H2 b e2 hb h2=>?_⟩)⟩))⟩)
  refine ⟨D,b,_,(zq rfl ⟨rfl,e2 _ _ h1,h2,(by rw[List.length_map,List.length_map];exact zEa (by omega)),?_⟩)⟩
  have s2:Same H (upd H2 D (.lst ((VametBase.flatCond r.cond).map V.int++ (VametBase.flatProgram r.input).map V.int))):=(e1.trans e2).updR hD
  refine (zq rfl ⟨.inl ⟨rfl,_,SqL.of zAb⟩,(zq rfl (zf (s2 _ _ ha) B.cl B.n3 (zSg _ _ _ _) ⟨D,_,(zq rfl ⟨rfl,zAb,(by rw[List.length_append,List.length_map,List.length_map];exact zCg (by omega)),?_⟩)⟩))⟩)
  rw[zBh]
  have s3:Same H (upd H2 D (.lst (((VametBase.flatCond r.cond).map V.int++ (VametBase.flatProgram r.input).map V.int) ++ [V.int (zBu r.rel:Int)]))):=(e1.trans e2).updR hD
  refine (zq rfl ⟨.inl ⟨rfl,_,SqL.of zAb⟩,(zq rfl (zf (s3 _ _ ha) B.cl B.n4 (zSh _ _ _ _) ⟨_,_,(zq rfl ⟨do_.same s3,⟨r.output,rfl,okr.2.1,rfl⟩,fun H4 b4 e4 hb4 h4=>?_⟩)⟩))⟩)
  refine ⟨D,b4,_,(zq rfl ⟨rfl,e4 _ _ zAb,h4,(by rw[List.length_append,List.length_append,List.length_map,List.length_map,List.length_map];exact zEa (by simp only [List.length_cons,List.length_nil];omega)),?_⟩)⟩
  refine (zq rfl ?_)
  refine k _ D ((s3.trans e4).updR hD) hD ?_
  rw[zAb]
  unfold VametBase.flatRelation
  rw[zOw]
  simp only [List.map_append,List.map_cons,List.append_assoc,List.cons_append,List.nil_append]
end
noncomputable def cF(n v r:V):List (Str×V):=zA9 "rows_told" r (zA9 "values_told" v (zA9 "number" n []))
theorem yE1(n v r:V):(cF n v r).lookup ("number":Str)=some n:=by kernel_rfl
theorem zSs(n v r:V):(cF n v r).lookup ("values_told":Str)=some v:=by kernel_rfl
theorem zTh(n v r:V):(cF n v r).lookup ("rows_told":Str)=some r:=by kernel_rfl
structure zCw(K:PySem.W.Frag)(mg:Str->Option Value)(C fI:Addr):Prop where
 gl:mg "Call" =some (.ref C)
 cl:Cls K C
 make:Mk K C fI
 n1:NoAttr K C "number"
 n2:NoAttr K C "values_told"
 n3:NoAttr K C "rows_told"
noncomputable def CallAt(CC:Addr)(A:Hp)(v:V)(c:List (List Int)):Prop:=∃a dx n xs rows vv rv,v= .ref a/\A a=some (.ins CC dx (cF (.int n) vv rv))/\c=(n::xs)::rows/\Dm A vv (zCl xs)/\Dm A rv (.list (rows.map zCl))
theorem CallAt.same{C:Addr}{A A':Hp}{v:V}{c:List (List Int)}(h:CallAt C A v c)(e:Same A A'):CallAt C A' v c:=by
 obtain⟨a,dx,n,xs,rows,vv,rv,h0,h1,h2,h3,h4⟩:=h
 exact⟨a,dx,n,xs,rows,vv,rv,h0,e _ _ h1,h2,h3.same e,h4.same e⟩
structure zN5(K:PySem.W.Frag)(mg:Str->Option Value)(aS:Addr)(as:List Addr):Prop where
 gl:mg "SHAPES" =some (.ref aS)
 tup:∀H:Hp,SqT K H aS (as.map V.ref)
 len:as.length=12
 row:∀(i:Nat) a,as[i]? =some a->∃n k:Nat,PyVametc.shape (i:Int)=some (n,k)/\∀H:Hp,SqT K H a [.int (n:Int),.int (k:Int)]
theorem zQv{z:Int}{u:Nat×Nat}(h:PyVametc.shape z=some u):0<=z/\z < 12/\u.1<=3/\u.2<=4:=by
 unfold PyVametc.shape at h
 repeat (first | (split at h;· cases h;rename_i e;subst e;decide) | cases h)
theorem zQw(k:Nat)(r:List Int):PyFlat.rows (k+1) r=match PyFlat.row r with
  | none=>none
  | some (x,s)=>match PyFlat.rows k s with
   | none=>none
   | some (xs,t)=>some (x::xs,t):=rfl
section
variable {P:Program} {w:World} {K:PySem.W.Frag} {mg:Str->Option Value} {base:Heap} {C fI fD fN fW fR CN CC fC0:Addr}
noncomputable abbrev s14:Stmt:=zBk (top 17) 0
theorem yE2:zAg ["self","number","values_told","rows_told"] ["self","number","values_told","rows_told"] (zAc s14):= fsc
noncomputable def yBr(CC:Addr):Sp:=fun vs H Q _=>∃(p dx:Addr) (n v r:V),vs= [.ref p,n,v,r]/\H p=some (.ins CC dx [])/\Q .non (upd H p (.ins CC dx (cF n v r)))
theorem yE3(F:∃fd,Fun K "__init__" "Call.__init__" s14 fC0 fd)(B:zCw K mg CC fC0):L2.Callee P w K mg base 1 fC0 ["self","number","values_told","rows_told"] (yBr CC):=by
 refine Fun.callee0 F yE2 (fun vs H Q E h=>?_) (fun _ _ _ _ _ _=>b4 fun _ _ _ _=>rfl) (fun cdv A outer s H vs Q E hr h=>?_)
 ·obtain⟨p,dx,n,v,r,rfl,_⟩:=h
  rfl
 ·obtain⟨p,dx,n,v,r,rfl,hp,k⟩:=h
  refine⟨_,zAe (zBn (pv 0) (pv 1) rfl) (zAe (zBn (pv 0) (pv 2) rfl) (zAf (zBn (pv 0) (pv 3) rfl))),?_⟩
  refine (zq rfl (zq rfl ⟨p,CC,dx,[],rfl,hp,B.cl,B.n1,(by show 0 < 1000;decide),?_⟩))
  refine (zq rfl (zq rfl ⟨p,CC,dx,(zq rfl ⟨zAb,B.cl,B.n2,(by show 1 < 1000;decide),?_⟩)⟩))
  refine (zq rfl (zq rfl ⟨p,CC,dx,(zq rfl ⟨zAb,B.cl,B.n3,Nat.lt_of_le_of_lt (zAt _ _ _) (by show 2 < 1000;decide),?_⟩)⟩))
  rw[zBh,zBh]
  exact k
noncomputable abbrev s15:Stmt:=top 18
theorem sc15:zAg ["reader","number","shape","values_told","place","rows_told"] ["reader"] (zAc s15):= fsc
noncomputable def zTi(K:PySem.W.Frag)(C CC:Addr):Sp:=fun vs H Q _=>∃(r la:Addr) (l:List Int) (p:Nat) (c:List (List Int)) (rest:List Int),vs= [.ref r]/\ReaderAt K C H r la l p/\PyFlat.call PyVametc.shape (l.drop p)=some (c,rest)/\∀H' v q,Keep r H H'->ReaderAt K C H' r la l q->l.drop q=rest->CallAt CC (mix A0 H H') v c->Q v H'
theorem yE4{f aS:Addr}{as:List Addr}(F:DefAt K mg "read_call" s15 f)(Bl:Blt mg)(R:zBw K mg C fI fD fN fW fR)(B:zCw K mg CC fC0)(S:zN5 K mg aS as)(CI:L2.Callee P w K mg base 1 fC0 ["self","number","values_told","rows_told"] (yBr CC))
  (Cn:L2.Callee P w K mg base 2 fN ["self"] (zKk K C CN zSc zWe)) (Cr:L2.Callee P w K mg base 3 fR ["self"] (zWf K C)):L2.Callee P w K mg base 4 f ["reader"] (zTi K C CC):=by
 refine F.callee0 sc15 (fun vs H Q E h=>?_) (fun _ _ _ _ _ _=>b1 fun _=>rfl) (fun cdv A outer s H vs Q E hr h=>?_)
 ·obtain⟨r,la,l,p,_,_,rfl,_⟩:=h
  rfl
 ·obtain⟨r,la,l,p,c,rest,rfl,hR,hcall,k⟩:=h
  have hr2:Room 2 _:=hr.mono (by decide)
  refine⟨_,zAe (zAq (i:=1) sc15.nd rfl (Or.inl rfl) (zCq (E:=E0) (pv 0) R.cl R.mN Cn hr2 zAm))
   (zAe (zAq (i:=2) sc15.nd rfl (Or.inl rfl) (zBi zBx (zAr (v:= .ref aS) (by rfl) S.gl rfl) (pv 1) (fun _ _=>rfl)))
   (zAe (zG9 (i:=3) (own:=[("place",4)]) rfl sc15.nd rfl rfl (zHy rfl rfl (by rfl) (by decide +kernel)) (zC1 rfl Bl.range (zAa (zBi zBx (pv 2) zAp (fun _ _=>rfl)) zAd)) (show zCf ["reader","number","shape","values_told","place","rows_told"] (zAc s15) _ [("place",4)]from bok)
    (fun s H C cl fp=>zAv (i:=4) sc15.nd rfl (Or.inl rfl)) (fun s H C cl fp=>zB2) (fun s H C' cl fp=>zCq (C:=C) (E:=E0) (pv 0) R.cl R.mN Cn hr2 zAm))
   (zAe (zG9 (i:=5) (own:=[("place",4)]) rfl sc15.nd rfl rfl (zHy rfl rfl (by rfl) (by decide +kernel)) (zC1 rfl Bl.range (zAa (zBi zBx (pv 2) zAp (fun _ _=>rfl)) zAd)) (show zCf ["reader","number","shape","values_told","place","rows_told"] (zAc s15) _ [("place",4)]from bok)
    (fun s H C cl fp=>zAv (i:=4) sc15.nd rfl (Or.inl rfl)) (fun s H C cl fp=>zB2) (fun s H C' cl fp=>zCq (C:=C) (E:=E0) (pv 0) R.cl R.mR Cr hr zAm))
   (zAf (zAi (zB0 (E:=E0) B.make CI hr2 (by rfl) B.gl zAm (zAa (pv 1) (zAa (pv 3) (zAa (pv 5) zAd))))))))),?_⟩
  obtain⟨⟨dx,hr1⟩,hs,hp,hl⟩:=id hR
  refine (zq rfl ⟨r,dx,(zq rfl ⟨hr1,zFi _ _ (by decide +kernel) (by decide +kernel),r,la,l,p,rfl,hR,?_⟩)⟩)
  cases hd:l.drop p with
  | nil=>rw[hd]at hcall;cases hcall
  | cons z r0=>
  rw[hd]at hcall
  unfold PyFlat.call at hcall
  dsimp only at hcall
  cases hsh:PyVametc.shape z with
  | none=>rw[hsh]at hcall;cases hcall
  | some u=>
  obtain⟨n,k1⟩:=u
  rw[hsh]at hcall
  dsimp only at hcall
  have hnl:n<=r0.length:=by
   by_cases q:r0.length < n
   ·rw[if_pos q]at hcall;cases hcall
   ·omega
  rw[if_neg (by omega)]at hcall
  cases hrw:PyFlat.rows k1 (r0.drop n)with
  | none=>rw[hrw]at hcall;cases hcall
  | some u=>
  obtain⟨rws,rest'⟩:=u
  rw[hrw]at hcall
  dsimp only at hcall
  have hc:(z::r0.take n)::rws=c:=congrArg Prod.fst (Option.some.inj hcall)
  have hrest:rest'=rest:=congrArg Prod.snd (Option.some.inj hcall)
  subst hc hrest
  obtain⟨z0,z12,n3,k4⟩:=zQv hsh
  have r0l:r0.length<=10000:=by
   have:=congrArg List.length hd
   rw[List.length_drop,List.length_cons]at this
   omega
  obtain⟨sa,hsa⟩:=zDh (l:=as) (i:=z.toNat) (by rw[S.len];omega)
  obtain⟨n',k',hsh',hrow⟩:=S.row _ _ hsa
  have zz:((z.toNat:Nat):Int)=z:=Int.toNat_of_nonneg z0
  rw[zz,hsh]at hsh'
  have e1:n=n':=congrArg Prod.fst (Option.some.inj hsh')
  have e2:k1=k':=congrArg Prod.snd (Option.some.inj hsh')
  subst e1 e2
  intro H1 v q1 kp1 hR1 hq1 hv
  subst hv
  refine (zq rfl ⟨aS,_,_,(zq rfl ⟨rfl,S.tup _,(by rw[<-zz];exact zAw (v:=V.ref sa) (by rw[List.getElem?_map,hsa];rfl)),?_⟩)⟩)
  refine (zq rfl ⟨sa,_,_,(zq rfl ⟨rfl,hrow _,zAw (j:=0) rfl,(zq rfl ⟨(by omega),(by omega),fun D hD=>?_⟩)⟩)⟩)
  rw[Int.toNat_natCast]
  have hDr:D≠r:=fun z=>by rw[z]at hD;have:=hR1.there;rw[hD]at this;cases this
  refine zFx (lo:=0) (n:=n) (fun j H'=>Keep r H1 H'/\(∃q,ReaderAt K C H' r la l q/\l.drop q=r0.drop j)/\H' D=some (.lst ((r0.take j).map V.int))) ⟨Keep.of (Same.upd hD),⟨q1,hR1.same (Same.upd hD),hq1⟩,zAb⟩ (fun j H' hj h=>?_) (fun H2 h=>?_)
  ·obtain⟨kp,⟨q,hRq,hdq⟩,hq⟩:=h
   obtain⟨dx',hr'⟩:=id hRq.obj
   have hj2:j < r0.length:=by omega
   have hcons:=List.drop_eq_getElem_cons hj2
   refine⟨rfl,?_⟩
   simp only [zNb,if_true]
   refine (zq rfl ⟨r,dx',(zq rfl ⟨hr',zFi _ _ (by decide +kernel) (by decide +kernel),r,la,l,q,rfl,hRq,?_⟩)⟩)
   rw[hdq,hcons]
   intro H2 v2 q2 kp2 hR2 hq2 hv2
   subst hv2
   refine⟨_,kp2.1 _ _ hq hDr,?_,(kp.trans kp2).updN hD hDr,⟨q2,hR2.upd hR1.lst hD hDr,hq2⟩,?_⟩
   ·rw[List.length_map,List.length_take]
    exact zCg (by omega)
   ·rw[zAb,zA2 (List.getElem?_eq_getElem hj2),List.map_append]
    rfl
  obtain⟨kp2,⟨q2,hR2,hdq2⟩,hvD⟩:=h
  refine (zq rfl ⟨sa,_,_,(zq rfl ⟨rfl,hrow _,zAw (j:=1) rfl,(zq rfl ⟨(by omega),(by omega),fun D2 hD2=>?_⟩)⟩)⟩)
  rw[Int.toNat_natCast]
  have hDr2:D2≠r:=fun z=>by rw[z]at hD2;have:=hR2.there;rw[hD2]at this;cases this
  refine zFx (lo:=0) (n:=k1) (fun j H'=>Keep r H2 H'/\∃(q:Nat) (a b:List (List Int)) (acc:List V),ReaderAt K C H' r la l q/\rws=a++b/\a.length=j/\PyFlat.rows (k1 - j) (l.drop q)=some (b,rest')/\H' D2=some (.lst acc)/\DmAll (wo (mix A0 H2 H') D2) acc (a.map zCl))
   ⟨Keep.of (Same.upd hD2),q2,[],rws,[],hR2.same (Same.upd hD2),rfl,rfl,(by rw[hdq2];exact hrw),zAb,.nil⟩ (fun j H' hj h=>?_) (fun H3 h=>?_)
  ·obtain⟨kp,q,a,b,acc,hRq,hab,hal,hrs,hq,dq⟩:=h
   obtain⟨dx',hr'⟩:=id hRq.obj
   rw[show k1 - j=(k1 - (j+1)) +1 by omega,zQw]at hrs
   cases hrw1:PyFlat.row (l.drop q)with
   | none=>rw[hrw1]at hrs;cases hrs
   | some u=>
   obtain⟨x,s1⟩:=u
   rw[hrw1]at hrs
   dsimp only at hrs
   cases hrw2:PyFlat.rows (k1 - (j+1)) s1 with
   | none=>rw[hrw2]at hrs;cases hrs
   | some u=>
   obtain⟨xs,t1⟩:=u
   rw[hrw2]at hrs
   dsimp only at hrs
   have hb:x::xs=b:=congrArg Prod.fst (Option.some.inj hrs)
   have ht:t1=rest':=congrArg Prod.snd (Option.some.inj hrs)
   subst hb ht
   refine⟨rfl,?_⟩
   simp only [zNb,if_true]
   refine (zq rfl ⟨r,dx',(zq rfl ⟨hr',zFi _ _ (by decide +kernel) (by decide +kernel),r,la,l,q,x,s1,rfl,hRq,hrw1,fun H4 v4 q4 kp4 hR4 hq4 dv4=>?_⟩)⟩)
   refine⟨acc,kp4.1 _ _ hq hDr2,?_,(kp.trans kp4).updN hD2 hDr2,q4,a++ [x],xs,acc++ [v4],hR4.upd hR2.lst hD2 hDr2,?_,?_,?_,zAb,?_⟩
   ·rw[dq.length,List.length_map,hal]
    exact zCg (by omega)
   ·rw[hab,List.append_assoc];rfl
   ·rw[List.length_append,hal];rfl
   ·rw[hq4];exact hrw2
   ·rw[zCv,List.map_append]
    have d1:DmAll (wo (mix A0 H2 H4) D2) acc (a.map zCl):=dq.same (Same.wo (kp4.mix hR2.there))
    exact d1.snoc (Dm.same (kp.mixW (by rw[hq];rfl)) dv4)
  obtain⟨kp3,q3,a,b,acc,hR3,hab,hal,hrs,hq3,dq⟩:=h
  rw[Nat.sub_self]at hrs
  have hrs:some (([]:List (List Int)),l.drop q3)=some (b,rest'):=hrs
  have hb:[] =b:=congrArg Prod.fst (Option.some.inj hrs)
  have hq3':l.drop q3=rest':=congrArg Prod.snd (Option.some.inj hrs)
  subst hb
  rw[List.append_nil]at hab
  subst hab
  refine (zq rfl (zq rfl (zq rfl (fun x dx2 hx hdx hne=>⟨x,dx2,_,_,(zq rfl ⟨zAb,rfl,?_⟩)⟩))))
  rw[zBh]
  have s5:Same H3 (upd (upd H3 dx2 (.own x)) x (.ins CC dx2 (cF (.int z) (.ref D) (.ref D2)))):=zA3 hx hdx
  have k13:=(kp1.trans kp2).trans kp3
  have hHr:=hR.there
  have kp23:=kp2.trans kp3
  have fD:H D=none:=kp1.free hD
  have fD2:H D2=none:=(kp1.trans kp2).free hD2
  have dD:Dm (mix A0 H H3) (.ref D) (zCl (r0.take n)):=Dm.row (zAs fD (kp3.1 _ _ hvD hDr))
  have dD2:Dm (mix A0 H H3) (.ref D2) (.list (rws.map zCl)):= .lst (zAs fD2 hq3) ((dq.same wo_same).same (kp1.trans kp2).mixN)
  refine k _ _ q3 (k13.trans (Keep.of s5)) (hR3.same s5) hq3' ⟨x,dx2,z,r0.take n,rws,.ref D,.ref D2,rfl,zAs (k13.free hx) zAb,rfl,dD.same (zCz s5),dD2.same (zCz s5)⟩
end
open VametBase (within)
theorem zUy{x:List Int}{s:zDp}{r:List Int}(h:VametBase.readStep x=some (s,r)):zI6 s:=by
 rw[zLr]at h
 cases h1:zGh 0 17 x with
 | none=>rw[h1]at h;cases h
 | some u=>
  obtain⟨n,rest⟩:=u
  rw[h1]at h
  dsimp only at h
  have hn:=zCj h1
  cases hl:zGw n.toNat with
  | none=>
   rw[hl]at h
   dsimp only at h
   have e:zGx n.toNat 0=s:=congrArg Prod.fst (Option.some.inj h)
   rw[<-e]
   exact(zHc (by omega) (by rw[hl])).2
  | some ab=>
   obtain⟨a,b⟩:=ab
   rw[hl]at h
   dsimp only at h
   cases h2:zGh a b rest with
   | none=>rw[h2]at h;cases h
   | some u=>
    rw[h2]at h
    have e:zGx n.toNat u.1=s:=congrArg Prod.fst (Option.some.inj h)
    rw[<-e]
    exact(zHc (by omega) (by rw[hl];exact zCj (r:=u.2) h2)).2
theorem zN6{α:Type}{rd:VametBase.Reader α}{Pr:α->Prop}(hp:∀x y r,rd x=some (y,r)->Pr y):∀{n:Nat} {x:List Int} {ys:List α} {r:List Int},VametBase.readTimes rd n x=some (ys,r)->ys.length=n/\∀y∈ys,Pr y
 | 0,x,ys,r,h=>by
  have h:some (([]:List α),x)=some (ys,r):=h
  have e:[] =ys:=congrArg Prod.fst (Option.some.inj h)
  subst e
  exact⟨rfl,fun y hy=>by cases hy⟩
 | n+1,x,ys,r,h=>by
  rw[zJb]at h
  cases h1:rd x with
  | none=>rw[h1]at h;cases h
  | some u=>
   obtain⟨y,rest⟩:=u
   rw[h1]at h
   dsimp only at h
   cases h2:VametBase.readTimes rd n rest with
   | none=>rw[h2]at h;cases h
   | some v=>
    obtain⟨zs,r2⟩:=v
    rw[h2]at h
    have e:y::zs=ys:=congrArg Prod.fst (Option.some.inj h)
    subst e
    obtain⟨a,b⟩:=zN6 hp h2
    refine⟨by rw[List.length_cons,a],fun q hq=>?_⟩
    rcases List.mem_cons.mp hq with rfl | hq
    ·exact hp _ _ _ h1
    ·exact b q hq
theorem zDt{α:Type}{rd:VametBase.Reader α}{Pr:α->Prop}(hp:∀x y r,rd x=some (y,r)->Pr y){m:Nat}{x:List Int}{ys:List α}{r:List Int}(h:VametBase.readListed 0 m rd x=some (ys,r)):ys.length<=m/\∀y∈ys,Pr y:=by
 rw[zLq]at h
 cases h1:zGh 0 m x with
 | none=>rw[h1]at h;cases h
 | some u=>
  obtain⟨n,rest⟩:=u
  rw[h1]at h
  dsimp only at h
  have:=zCj h1
  obtain⟨a,b⟩:=zN6 hp h
  exact⟨by omega,b⟩
theorem zCx{α:Type}{rd:VametBase.Reader α}{x:List Int}{y:α}(h:VametBase.whole rd x=some y):∃r,rd x=some (y,r):=by
 unfold VametBase.whole at h
 split at h
 ·rename_i u hu
  cases h
  exact⟨_,hu⟩
 ·cases h
theorem zGk{x:List Int}{p:zBc}{r:List Int}(h:VametBase.readProgram x=some (p,r)):zBy p:=zDt (m:=8) (fun _ _ _ e=>zUy e) h
theorem zMy{x:List Int}{q:VametBase.Relation}{r:List Int}(h:VametBase.readRelation x=some (q,r)):zBy q.input/\zBy q.output:=by
 rw[zF2]at h
 cases h1:VametBase.readCond x with
 | none=>rw[h1]at h;cases h
 | some u=>
  obtain⟨c,x1⟩:=u
  rw[h1]at h
  dsimp only at h
  cases h2:VametBase.readProgram x1 with
  | none=>rw[h2]at h;cases h
  | some u=>
   obtain⟨i,x2⟩:=u
   rw[h2]at h
   dsimp only at h
   cases h3:VametBase.readRel x2 with
   | none=>rw[h3]at h;cases h
   | some u=>
    obtain⟨l,x3⟩:=u
    rw[h3]at h
    dsimp only at h
    cases h4:VametBase.readProgram x3 with
    | none=>rw[h4]at h;cases h
    | some u=>
     obtain⟨o,x4⟩:=u
     rw[h4]at h
     have e:(⟨c,i,l,o⟩:VametBase.Relation)=q:=congrArg Prod.fst (Option.some.inj h)
     rw[<-e]
     exact⟨zGk h2,zGk h4⟩
theorem zQx(lo:Int)(w:Nat):∀(n:Nat),∀r∈zCh lo w n,∀z∈r,lo<=z/\z < lo+w
 | 0,r,h,z,hz=>by
  have:r= []:=by simpa [zCh]using h
  rw[this]at hz
  cases hz
 | n+1,r,h,z,hz=>by
  have h:r∈(zCh lo w n).flatMap fun r=>(List.range w).map fun d=>r++ [lo+VametBase.int d]:=h
  obtain⟨q,hq,hr⟩:=List.mem_flatMap.mp h
  obtain⟨d,hd,rfl⟩:=List.mem_map.mp hr
  have hd:=List.mem_range.mp hd
  rcases List.mem_append.mp hz with hz | hz
  ·exact zQx lo w n q hq z hz
  ·have e:z=lo+VametBase.int d:=by simpa using hz
   unfold VametBase.int at e
   omega
theorem zTj(lo:Int)(w:Nat):∀(n:Nat),∀r∈zCc lo w n,r.length<=n/\∀z∈r,lo<=z/\z < lo+w
 | 0,r,h=>by
  have:r= []:=by simpa [zCc]using h
  rw[this]
  exact⟨Nat.zero_le _,fun z hz=>by cases hz⟩
 | n+1,r,h=>by
  have h:r∈zCc lo w n++zCh lo w (n+1):=h
  rcases List.mem_append.mp h with h | h
  ·obtain⟨a,b⟩:=zTj lo w n r h
   exact⟨by omega,b⟩
  ·exact⟨by rw[zGg lo w (n+1) r h];exact Nat.le_refl _,zQx lo w (n+1) r h⟩
theorem zKd{b:zDa}(h:okB b):1<=VametBase.width b:=by
 obtain⟨_,_,h3,_⟩:=h
 unfold VametBase.width
 omega
theorem zDu{b:zDa}(h:okB b)(ht:zAz (VametBase.width b) b.long<=150):zTe (Vametc.inputsOf b)/\Vametc.inputsOf b=zCc b.lo (VametBase.width b) b.long:=by
 have e:=zMb b (zKd h) (by omega)
 refine⟨⟨fun x hx=>?_,?_⟩,e⟩
 ·rw[e]at hx
  obtain⟨h1,h2⟩:=zTj _ _ _ x hx
  obtain⟨k1,k2,k3,k4⟩:=h
  unfold VametBase.within VametBase.LONG VametBase.MOST
  rw[Bool.and_eq_true,decide_eq_true_iff]
  refine⟨by omega,List.all_eq_true.mpr fun z hz=>?_⟩
  have:=h2 z hz
  unfold VametBase.width at this
  rw[Bool.and_eq_true,decide_eq_true_iff,decide_eq_true_iff]
  omega
 ·rw[e,zDj _ (zKd h)]
  exact ht
theorem zD7{b:zDa}(h:okB b)(ht:zAz (VametBase.width b) b.long<=1500):VametBase.inputCount b=zAz (VametBase.width b) b.long:=by
 rw[zDw b (zKd h)]
 exact Nat.min_eq_right (by omega)
structure zQy(s:Vametc.State):Prop where
 pr:zBy s.program
 bd:okB s.bound
 bt:zAz (VametBase.width s.bound) s.bound.long<=1500
 fm:zG7 s.family
 ol:s.others.length<=8
 op:∀p∈s.others,zBy p
theorem zSt:zQy Vametc.start:=⟨⟨Nat.zero_le _,fun s h=>by cases h⟩,(by unfold okB;decide),(by decide),⟨Nat.zero_le _,Nat.zero_le _,Nat.zero_le _,Nat.zero_le _,(fun p h=>by cases h),fun p h=>by cases h⟩,Nat.zero_le _,fun p h=>by cases h⟩
theorem zSu{n a b:Int}{v:zDa}(h:VametBase.whole VametBase.readBound [n,a,b] =some v):okB v/\zAz (VametBase.width v) v.long<=1500:=by
 rw[zI9]at h
 split at h
 ·rename_i hc
  have e:=Option.some.inj h
  rw[<-e]
  obtain⟨h1,h2,h3,h4,h5,h6⟩:=hc
  exact⟨⟨by show n.toNat<=8;omega,h3,h5,h4⟩,h6⟩
 ·cases h
open VametBase (within)
noncomputable def oF(p b f o:V):List (Str×V):=zA9 "others" o (zA9 "family" f (zA9 "bound" b (zA9 "program" p [])))
section
variable (p b f o v:V)
theorem yAb:(oF p b f o).lookup ("program":Str)=some p:=by kernel_rfl
theorem yAc:(oF p b f o).lookup ("bound":Str)=some b:=by kernel_rfl
theorem zVd:(oF p b f o).lookup ("family":Str)=some f:=by kernel_rfl
theorem zWy:(oF p b f o).lookup ("others":Str)=some o:=by kernel_rfl
theorem ne1:¬(("program":Str)= "bound"):=by decide +kernel
theorem ne2:¬(("program":Str)= "family"):=by decide +kernel
theorem ne3:¬(("program":Str)= "others"):=by decide +kernel
theorem ne4:¬(("bound":Str)= "family"):=by decide +kernel
theorem ne5:¬(("bound":Str)= "others"):=by decide +kernel
theorem ne6:¬(("family":Str)= "others"):=by decide +kernel
theorem zUz:zA9 "program" v (oF p b f o)=oF v b f o:=by
 unfold oF;simp only [zA9,if_neg ne1,if_neg ne2,if_neg ne3,if_neg ne4,if_neg ne5,if_neg ne6,if_true]
theorem zU0:zA9 "bound" v (oF p b f o)=oF p v f o:=by
 unfold oF;simp only [zA9,if_neg ne1,if_neg ne2,if_neg ne3,if_neg ne4,if_neg ne5,if_neg ne6,if_true]
theorem zU1:zA9 "family" v (oF p b f o)=oF p b v o:=by
 unfold oF;simp only [zA9,if_neg ne1,if_neg ne2,if_neg ne3,if_neg ne4,if_neg ne5,if_neg ne6,if_true]
theorem zU2:zA9 "others" v (oF p b f o)=oF p b f v:=by
 unfold oF;simp only [zA9,if_neg ne1,if_neg ne2,if_neg ne3,if_neg ne4,if_neg ne5,if_neg ne6,if_true]
theorem zN7:(oF p b f o).length < 1000:=by
 unfold oF;simp only [zA9,if_neg ne1,if_neg ne2,if_neg ne3,if_neg ne4,if_neg ne5,if_neg ne6];show 4 < 1000;decide
end
structure zB3(K:PySem.W.Frag)(mg:Str->Option Value)(C fI:Addr):Prop where
 gl:mg "Told" =some (.ref C)
 cl:Cls K C
 make:Mk K C fI
 n1:NoAttr K C "program"
 n2:NoAttr K C "bound"
 n3:NoAttr K C "family"
 n4:NoAttr K C "others"
structure ToldIn(CB CF:Addr)(A:Hp)(vp:V)(ba:Addr)(vf vo:V)(st:Vametc.State):Prop where
 p:Dm A vp (zBt st.program)
 b:BoundAt CB A ba st.bound
 f:FamAt CF A vf st.family
 o:Dm A vo (.list (st.others.map zBt))
theorem BoundAt.same'{C:Addr}{A A':Hp}{a:Addr}{b:zDa}(h:BoundAt C A a b)(e:Same A A'):BoundAt C A' a b:=by
 obtain⟨dx,h⟩:=h
 exact⟨dx,e _ _ h⟩
theorem ToldIn.same{CB CF:Addr}{A A':Hp}{vp:V}{ba:Addr}{vf vo:V}{st:Vametc.State}(h:ToldIn CB CF A vp ba vf vo st)(e:Same A A'):ToldIn CB CF A' vp ba vf vo st:=⟨h.p.same e,h.b.same' e,h.f.same e,h.o.same e⟩
noncomputable def ToldAt(CB CF CO:Addr)(A H:Hp)(t:Addr)(st:Vametc.State):Prop:=Same A H/\A t=none/\∃dx vp ba vf vo,H t=some (.ins CO dx (oF vp (.ref ba) vf vo))/\ToldIn CB CF A vp ba vf vo st
theorem zD8{t:Addr}{A H H1 H2:Hp}(k:Keep t H1 H2)(ht:(H t).isSome=true):Same (mix A0 H H1) (mix A H H2):=fun b o e=>by
 cases q:H b with
 | some u=>rw[zA8 q]at e;cases e
 | none=>
  rw[zA7 q]at e ⊢
  exact k.1 b o e fun z=>by rw[z]at q;rw[q]at ht;cases ht
theorem ToldAt.put{CB CF CO:Addr}{A H H':Hp}{t:Addr}{st st':Vametc.State}(h:ToldAt CB CF CO A H t st)(k:Keep t H H'){dx:Addr}{vp:V}{ba:Addr}{vf vo:V}(e:H' t=some (.ins CO dx (oF vp (.ref ba) vf vo)))(hn:ToldIn CB CF (mix A H H') vp ba vf vo st'):ToldAt CB CF CO (mix A H H') H' t st':=by
 obtain⟨sA,hA,dx0,vp0,ba0,vf0,vo0,ht,_⟩:=h
 exact⟨k.mixI sA hA,by rw[zA8 ht];exact hA,dx,vp,ba,vf,vo,e,hn⟩
noncomputable def zU3(CB CF CO:Addr)(Ref:List (Addr×Int))(A:Hp)(t:Addr)(st:Vametc.State)(k:Vametc.Call)(H:Hp)(Q:VK)(E:XK):Prop:=
 (∀C code H',(C,code)∈Ref->Same H H'->Vametc.step st k=(st,[code])->E (.ref C) none H')/\
 ∀H' v,Keep t H H'->ToldAt CB CF CO (mix A H H') H' t (Vametc.step st k).1->zQy (Vametc.step st k).1->Dm (mix A H H') v (zCl (Vametc.step st k).2)->Q v H'
noncomputable def zJg(c:List (List Int)):Prop:=∀l∈c,l.length<=10000
noncomputable def spA(CB CF CO CC:Addr)(Ref:List (Addr×Int))(n:Int):Sp:=fun vs H Q E=>∃(t:Addr) (v:V) (A:Hp) (st:Vametc.State) (c:List (List Int)) (k:Vametc.Call),vs= [.ref t,v]/\ToldAt CB CF CO A H t st/\CallAt CC A v c/\zQy st/\zJg c/\(∃xs rows,c=(n::xs)::rows)/\VametcNeutral.callOf c=some k/\
 zU3 CB CF CO Ref A t st k H Q E
section
variable {P:Program} {w:World} {K:PySem.W.Frag} {mg:Str->Option Value} {base:Heap} {CB CF CO CC CN fO0 fC0:Addr} {Ref:List (Addr×Int)}
theorem zC4{n:Int}:∀vs H Q E,spA CB CF CO CC Ref n vs H Q E->vs.length=2:=fun vs H Q E ⟨_,_,_,_,_,_,h,_⟩=>by rw[h];rfl
theorem yAd{c:List (List Int)}{k:Vametc.Call}(h:VametcNeutral.callOf c=some k)(hn:∃xs rows,c=(0::xs)::rows):∃l,c= [[0],l]/\k= .program l:=by
 obtain⟨xs,rows,rfl⟩:=hn
 rcases xs with _ | ⟨x,xs⟩ <;> rcases rows with _ | ⟨l,_ | ⟨m,rows⟩⟩ <;> first | exact (zq rfl ((Option.some.inj h).symm)) | cases(show none=some k from h)
theorem CallAt.inv{C:Addr}{A:Hp}{v:V}{n:Int}{xs:List Int}{rows:List (List Int)}(h:CallAt C A v ((n::xs)::rows)):∃a dx vv rv,v= .ref a/\A a=some (.ins C dx (cF (.int n) vv rv))/\Dm A vv (zCl xs)/\Dm A rv (.list (rows.map zCl)):=by
 obtain⟨a,dx,n',xs',rows',vv,rv,h0,h1,h2,h3,h4⟩:=h
 obtain⟨e1,e2⟩:=List.cons.inj h2
 obtain⟨e3,e4⟩:=List.cons.inj e1
 subst e2 e3 e4
 exact⟨a,dx,vv,rv,h0,h1,h3,h4⟩
noncomputable abbrev s95:Stmt:=top 127
theorem yE5:zAg ["told","call"] ["told","call"] (zAc s95):= fsc
theorem yE6{f fw f1:Addr}(F:DefAt K mg "answer_program" s95 f)(Bl:Blt mg)(B:zB3 K mg CO fO0)(BC:zCw K mg CC fC0)(hRef:(CN,-1)∈Ref)
  (mw:mg "read_whole" =some (.ref fw)) (m1:mg "read_program" =some (.ref f1)) (Cw:L2.Callee P w K mg base 9 fw ["numbers","read_thing"] (zUn K CN VametBase.readProgram (zH5 zBt) f1)):
  L2.Callee P w K mg base 10 f ["told","call"] (spA CB CF CO CC Ref 0):=by
 refine F.calleeE yE5 zC4 (fun _ _ _ _ _ _=>b2 fun _ _=>rfl) (fun cdv A outer s H vs Q E hr hw h=>?_)
 obtain⟨t,v,Ar,st,c,k,rfl,hT,hC,okS,okr,hn,hk,hE,hQ⟩:=h
 obtain⟨l,rfl,rfl⟩:=yAd hk hn
 obtain⟨sA,hAt,dx,vp,ba,vf,vo,ht,hin⟩:=id hT
 obtain⟨ca,cdx,vv,rv,rfl,hca,dvv,drv⟩:=hC.inv
 obtain⟨ra,rx,rfl,hra,hrx⟩:=Dm.list_inv drv
 obtain⟨lv,hlv,dlv⟩:=hrx.at (i:=0) (d:=zCl l) rfl
 obtain⟨la,rfl,hla⟩:=Dm.row_inv dlv
 refine⟨_,zAe (zBn (pv 0) (zAh (E:=E) Cw hr (by rfl) mw hw (zAa (zBi zBj (zAl (pv 1) rfl) zAp (fun _ _=>rfl)) (zAa (zAr (v:= .ref f1) (by rfl) m1 rfl) zAd))) rfl)
  (zAf (zAi (zA4 (zAa (zAn zAk (by rfl) Bl.len PySem.boot_len (zAa (zAl (pv 0) rfl) zAd)) zAd)))),?_⟩
 refine (zq rfl (zf (sA _ _ hca) BC.cl BC.n3 (zTh _ _ _) ⟨ra,_,_,(zq rfl ⟨rfl,SqL.of (sA _ _ hra),zAw (j:=0) hlv,la,l,rfl,SqL.of (sA _ _ hla),okr l (by simp),?_⟩)⟩))
 have st1:Vametc.step st (.program l)=(match VametBase.whole VametBase.readProgram l with
  | none=>Vametc.refused st (-1)
  | some p=>({st with program:=p},[VametBase.int p.length])):=rfl
 cases hwh:VametBase.whole VametBase.readProgram l with
 | none=>
  rw[hwh]at st1
  exact fun H1 e1=>hE CN (-1) H1 hRef e1 st1
 | some p=>
  rw[hwh]at st1
  dsimp only at st1
  rw[st1]at hQ
  intro H1 v1 e1 d1
  have ht1:=e1 _ _ ht
  have hHt:(H t).isSome=true:=by rw[ht];rfl
  refine (zq rfl ⟨t,CO,dx,(zq rfl ⟨ht1,B.cl,B.n1,zN7 _ _ _ _,?_⟩)⟩)
  rw[zUz]
  obtain⟨pa,px,rfl,hpa,hpx⟩:=Dm.tup_inv (ds:=p.map zEl) d1
  have hpa1:H1 pa=some (.tup px):=zBs zBv e1 _ _ hpa
  have hpt:pa≠t:=zEw hpa1 ht1 (by intro z;cases z)
  have hlp:px.length=p.length:=by rw[hpx.length,List.length_map]
  have okp:zBy p:=by
   obtain⟨r,hr0⟩:=zCx hwh
   exact zGk hr0
  have k1:Keep t H1 (upd H1 t (.ins CO dx (oF (.ref pa) (.ref ba) vf vo))):=Keep.upd (by rw[ht1];rfl)
  refine (zq rfl (zf zAb B.cl B.n1 (yAb _ _ _ _) ⟨pa,(zq rfl ⟨.inr (SqT.of (k1.1 _ _ hpa1 hpt)),(by show 1<=sizeLine;decide),fun a ha=>?_⟩)⟩))
  have k2:Keep t H1 (upd (upd H1 t (.ins CO dx (oF (.ref pa) (.ref ba) vf vo))) a (.lst [.int (px.length:Int)])):=k1.trans (Keep.of (Same.upd ha))
  have k3:Keep t H (upd (upd H1 t (.ins CO dx (oF (.ref pa) (.ref ba) vf vo))) a (.lst [.int (px.length:Int)])):=(Keep.of e1).trans k2
  refine hQ _ _ k3 (hT.put k3 (Same.upd ha _ _ zAb) ⟨d1.same (zD8 k2 hHt),(hin.same (zBf sA)).b,(hin.same (zBf sA)).f,(hin.same (zBf sA)).o⟩) ⟨okp,okS.bd,okS.bt,okS.fm,okS.ol,okS.op⟩ ?_
  rw[hlp]
  exact Dm.row (zAs (e1.free (k1.free ha)) zAb)
end
open VametBase (within)
section
variable {c:List (List Int)} {k:Vametc.Call}
theorem yAe(h:VametcNeutral.callOf c=some k)(hn:∃xs rows,c=(1::xs)::rows):∃n a b,c= [[1,n,a,b]]/\k= .bound n a b:=by
 obtain⟨xs,rows,rfl⟩:=hn
 rcases xs with _ | ⟨x,_ | ⟨y,_ | ⟨z,_ | ⟨u,xs⟩⟩⟩⟩ <;> rcases rows with _ | ⟨l,rows⟩ <;> first | exact ⟨_,_,(zq rfl ((Option.some.inj h).symm))⟩ | cases(show none=some k from h)
theorem yAf(h:VametcNeutral.callOf c=some k)(hn:∃xs rows,c=(2::xs)::rows):∃a i o r,c= [[2],a,i,o,r]/\k= .family a i o r:=by
 obtain⟨xs,rows,rfl⟩:=hn
 rcases xs with _ | ⟨x,xs⟩ <;> rcases rows with _ | ⟨l,_ | ⟨m,_ | ⟨n,_ | ⟨o,_ | ⟨p,rows⟩⟩⟩⟩⟩ <;> first | exact ⟨_,_,_,(zq rfl ((Option.some.inj h).symm))⟩ | cases(show none=some k from h)
theorem yAg(h:VametcNeutral.callOf c=some k)(hn:∃xs rows,c=(3::xs)::rows):∃l,c= [[3],l]/\k= .others l:=by
 obtain⟨xs,rows,rfl⟩:=hn
 rcases xs with _ | ⟨x,xs⟩ <;> rcases rows with _ | ⟨l,_ | ⟨m,rows⟩⟩ <;> first | exact (zq rfl ((Option.some.inj h).symm)) | cases(show none=some k from h)
theorem yAh(h:VametcNeutral.callOf c=some k)(hn:∃xs rows,c=(4::xs)::rows):∃l,c= [[4],l]/\k= .held l:=by
 obtain⟨xs,rows,rfl⟩:=hn
 rcases xs with _ | ⟨x,xs⟩ <;> rcases rows with _ | ⟨l,_ | ⟨m,rows⟩⟩ <;> first | exact (zq rfl ((Option.some.inj h).symm)) | cases(show none=some k from h)
theorem yAi(h:VametcNeutral.callOf c=some k)(hn:∃xs rows,c=(5::xs)::rows):c= [[5]]/\k= .found:=by
 obtain⟨xs,rows,rfl⟩:=hn
 rcases xs with _ | ⟨x,xs⟩ <;> rcases rows with _ | ⟨l,rows⟩ <;> first | exact⟨rfl,(Option.some.inj h).symm⟩ | cases(show none=some k from h)
end
section
variable {P:Program} {w:World} {K:PySem.W.Frag} {mg:Str->Option Value} {base:Heap} {CB CF CO CC CN CX fB0 fF0 fO0 fC0:Addr} {Ref:List (Addr×Int)}
noncomputable abbrev s98:Stmt:=top 130
theorem yE7:zAg ["told","call"] ["told","call"] (zAc s98):= fsc
theorem yE8{f fw f1:Addr}(F:DefAt K mg "answer_others" s98 f)(Bl:Blt mg)(B:zB3 K mg CO fO0)(BC:zCw K mg CC fC0)(hRef:(CN,-1)∈Ref)
  (mw:mg "read_whole" =some (.ref fw)) (m1:mg "read_others" =some (.ref f1)) (Cw:L2.Callee P w K mg base 9 fw ["numbers","read_thing"] (zUn K CN (VametBase.readListed 0 8 VametBase.readProgram) (zH5 fun xs=> .list (xs.map zBt)) f1)):
  L2.Callee P w K mg base 10 f ["told","call"] (spA CB CF CO CC Ref 3):=by
 refine F.calleeE yE7 zC4 (fun _ _ _ _ _ _=>b2 fun _ _=>rfl) (fun cdv A outer s H vs Q E hr hw h=>?_)
 obtain⟨t,v,Ar,st,c,k,rfl,hT,hC,okS,okr,hn,hk,hE,hQ⟩:=h
 obtain⟨l,rfl,rfl⟩:=yAg hk hn
 obtain⟨sA,hAt,dx,vp,ba,vf,vo,ht,hin⟩:=id hT
 obtain⟨ca,cdx,vv,rv,rfl,hca,dvv,drv⟩:=hC.inv
 obtain⟨ra,rx,rfl,hra,hrx⟩:=Dm.list_inv drv
 obtain⟨lv,hlv,dlv⟩:=hrx.at (i:=0) (d:=zCl l) rfl
 obtain⟨la,rfl,hla⟩:=Dm.row_inv dlv
 refine⟨_,zAe (zBn (pv 0) (zAh (E:=E) Cw hr (by rfl) mw hw (zAa (zBi zBj (zAl (pv 1) rfl) zAp (fun _ _=>rfl)) (zAa (zAr (v:= .ref f1) (by rfl) m1 rfl) zAd))) rfl)
  (zAf (zAi (zA4 (zAa (zAn zAk (by rfl) Bl.len PySem.boot_len (zAa (zAl (pv 0) rfl) zAd)) zAd)))),?_⟩
 refine (zq rfl (zf (sA _ _ hca) BC.cl BC.n3 (zTh _ _ _) ⟨ra,_,_,(zq rfl ⟨rfl,SqL.of (sA _ _ hra),zAw (j:=0) hlv,la,l,rfl,SqL.of (sA _ _ hla),okr l (by simp),?_⟩)⟩))
 have st1:Vametc.step st (.others l)=(match VametBase.whole (VametBase.readListed 0 8 VametBase.readProgram) l with
  | none=>Vametc.refused st (-1)
  | some p=>({st with others:=p},[VametBase.int p.length])):=rfl
 cases hwh:VametBase.whole (VametBase.readListed 0 8 VametBase.readProgram) l with
 | none=>
  rw[hwh]at st1
  exact fun H1 e1=>hE CN (-1) H1 hRef e1 st1
 | some p=>
  rw[hwh]at st1
  dsimp only at st1
  rw[st1]at hQ
  intro H1 v1 e1 d1
  have ht1:=e1 _ _ ht
  have hHt:(H t).isSome=true:=by rw[ht];rfl
  refine (zq rfl ⟨t,CO,dx,(zq rfl ⟨ht1,B.cl,B.n4,zN7 _ _ _ _,?_⟩)⟩)
  rw[zU2]
  obtain⟨pa,px,rfl,hpa,hpx⟩:=Dm.list_inv (ds:=p.map zBt) d1
  have hpa1:H1 pa=some (.lst px):=zBs zBv e1 _ _ hpa
  have hpt:pa≠t:=zEw hpa1 ht1 (by intro z;cases z)
  have hlp:px.length=p.length:=by rw[hpx.length,List.length_map]
  obtain⟨r,hr0⟩:=zCx hwh
  obtain⟨okl,okp⟩:=zDt (Pr:=zBy) (fun _ _ _ e=>zGk e) hr0
  have k1:Keep t H1 (upd H1 t (.ins CO dx (oF vp (.ref ba) vf (.ref pa)))):=Keep.upd (by rw[ht1];rfl)
  refine (zq rfl (zf zAb B.cl B.n4 (zWy _ _ _ _) ⟨pa,(zq rfl ⟨.inl (SqL.of (k1.1 _ _ hpa1 hpt)),(by show 1<=sizeLine;decide),fun a ha=>?_⟩)⟩))
  have k2:=k1.trans (Keep.of (r:=t) (Same.upd (o:= .lst [.int (px.length:Int)]) ha))
  have k3:=(Keep.of (r:=t) e1).trans k2
  refine hQ _ _ k3 (hT.put k3 (Same.upd ha _ _ zAb) ⟨(hin.same (zBf sA)).p,(hin.same (zBf sA)).b,(hin.same (zBf sA)).f,d1.same (zD8 k2 hHt)⟩) ⟨okS.pr,okS.bd,okS.bt,okS.fm,okl,okp⟩ ?_
  rw[hlp]
  exact Dm.row (zAs (e1.free (k1.free ha)) zAb)
noncomputable abbrev s96:Stmt:=top 128
theorem yE9:zAg ["told","call"] ["told","call"] (zAc s96):= fsc
theorem yFa{f fb fh:Addr}(F:DefAt K mg "answer_bound" s96 f)(B:zB3 K mg CO fO0)(BC:zCw K mg CC fC0)(hRef:(CN,-1)∈Ref)
  (mb:mg "bound_as_told" =some (.ref fb)) (Cb:L2.Callee P w K mg base 3 fb ["length","first","second"] (yA0 CB CN)) (mh:mg "how_many_inputs" =some (.ref fh)) (Ch:L2.Callee P w K mg base 1 fh ["bound"] (zSb CB)):
  L2.Callee P w K mg base 10 f ["told","call"] (spA CB CF CO CC Ref 1):=by
 refine F.calleeE yE9 zC4 (fun _ _ _ _ _ _=>b2 fun _ _=>rfl) (fun cdv A outer s H vs Q E hr hw h=>?_)
 obtain⟨t,v,Ar,st,c,k,rfl,hT,hC,okS,okr,hn,hk,hE,hQ⟩:=h
 obtain⟨n,x,y,rfl,rfl⟩:=yAe hk hn
 obtain⟨sA,hAt,dx,vp,ba,vf,vo,ht,hin⟩:=id hT
 obtain⟨ca,cdx,vv,rv,rfl,hca,dvv,drv⟩:=hC.inv
 obtain⟨va,rfl,hva⟩:=Dm.row_inv dvv
 have hca':=sA _ _ hca
 have hva':=sA _ _ hva
 have hr3:Room 3 _:=hr.mono (by decide)
 have hr1:Room 1 _:=hr.mono (by decide)
 refine⟨_,zAe (zBn (pv 0) (zAh (E:=E) Cb hr3 (by rfl) mb hw (zAa (zBi zBj (zAl (pv 1) rfl) zAp (fun _ _=>rfl)) (zAa (zBi zBj (zAl (pv 1) rfl) zAp (fun _ _=>rfl)) (zAa (zBi zBj (zAl (pv 1) rfl) zAp (fun _ _=>rfl)) zAd)))) rfl)
  (zAf (zAi (zA4 (zAa (zAh (E:=E0) Ch hr1 (by rfl) mh zAm (zAa (zAl (pv 0) rfl) zAd)) zAd)))),?_⟩
 refine (zq rfl (zf hca' BC.cl BC.n2 (zSs _ _ _) ⟨va,_,_,(zq rfl ⟨rfl,SqL.of hva',zAw (j:=0) rfl,(zq rfl (zf hca' BC.cl BC.n2 (zSs _ _ _) ⟨va,_,_,(zq rfl ⟨rfl,SqL.of hva',zAw (j:=1) rfl,(zq rfl (zf hca' BC.cl BC.n2 (zSs _ _ _) ⟨va,_,_,(zq rfl ⟨rfl,SqL.of hva',zAw (j:=2) rfl,n,x,y,rfl,?_⟩)⟩))⟩)⟩))⟩)⟩))
 have st1:Vametc.step st (.bound n x y)=(match VametBase.whole VametBase.readBound [n,x,y]with
  | none=>Vametc.refused st (-1)
  | some p=>({st with bound:=p},[VametBase.int (VametBase.inputCount p)])):=rfl
 cases hwh:VametBase.whole VametBase.readBound [n,x,y]with
 | none=>
  rw[hwh]at st1
  exact fun H1 e1=>hE CN (-1) H1 hRef e1 st1
 | some b=>
  rw[hwh]at st1
  dsimp only at st1
  rw[st1]at hQ
  obtain⟨okb,okt⟩:=zSu hwh
  intro H1 pb e1 hpb hb
  have ht1:=e1 _ _ ht
  have hHt:(H t).isSome=true:=by rw[ht];rfl
  refine (zq rfl ⟨t,CO,dx,(zq rfl ⟨ht1,B.cl,B.n2,zN7 _ _ _ _,?_⟩)⟩)
  rw[zU0]
  have hpt:pb≠t:=fun z=>by rw[z,ht]at hpb;cases hpb
  have k1:Keep t H1 (upd H1 t (.ins CO dx (oF vp (.ref pb) vf vo))):=Keep.upd (by rw[ht1];rfl)
  have hb1:BoundAt CB (upd H1 t (.ins CO dx (oF vp (.ref pb) vf vo))) pb b:=by
   obtain⟨bdx,hb⟩:=hb
   exact⟨bdx,k1.1 _ _ hb hpt⟩
  refine (zq rfl (zf zAb B.cl B.n2 (yAc _ _ _ _) ⟨pb,b,rfl,hb1,okb,(by show 1<=sizeLine;decide),fun a ha=>?_⟩))
  have k2:=k1.trans (Keep.of (r:=t) (Same.upd (o:= .lst [.int (zAz (VametBase.width b) b.long:Nat)]) ha))
  have k3:=(Keep.of (r:=t) e1).trans k2
  refine hQ _ _ k3 (hT.put k3 (Same.upd ha _ _ zAb) ⟨(hin.same (zBf sA)).p,?_,(hin.same (zBf sA)).f,(hin.same (zBf sA)).o⟩) ⟨okS.pr,okb,okt,okS.fm,okS.ol,okS.op⟩ ?_
  ·obtain⟨bdx,hb⟩:=hb1
   exact⟨bdx,zAs hpb (Same.upd ha _ _ hb)⟩
  ·rw[zD7 okb okt]
   exact Dm.row (zAs (e1.free (k1.free ha)) zAb)
noncomputable abbrev s94:Stmt:=top 120
theorem yFb:zAg ["told"] ["told"] (zAc s94):= fsc
noncomputable def zVe(CB CO CX:Addr):Sp:=fun vs H Q E=>∃(t dx:Addr) (vp:V) (ba:Addr) (vf vo:V) (b:zDa),vs= [.ref t]/\H t=some (.ins CO dx (oF vp (.ref ba) vf vo))/\BoundAt CB H ba b/\okB b/\zAz (VametBase.width b) b.long<=1500/\
 (150 < VametBase.inputCount b->∀H',Same H H'->E (.ref CX) none H')/\(¬150 < VametBase.inputCount b->∀H' v,Same H H'->Dm (mix A0 H H') v (.list ((Vametc.inputsOf b).map zCl))->Q v H')
theorem yFc{f fi fh:Addr}(F:DefAt K mg "inputs_tried" s94 f)(B:zB3 K mg CO fO0)(N:zCr K mg "TooManyInputs" CX)(c1:zDc mg "MOST_INPUTS_TRIED" 150)
  (mi:mg "inputs_in_order" =some (.ref fi)) (Ci:L2.Callee P w K mg base 2 fi ["bound"] (yA1 CB)) (mh:mg "how_many_inputs" =some (.ref fh)) (Ch:L2.Callee P w K mg base 1 fh ["bound"] (zSb CB)):
  L2.Callee P w K mg base 3 f ["told"] (zVe CB CO CX):=by
 obtain⟨t1,c1⟩:=c1
 refine F.calleeE yFb (fun vs H Q E h=>?_) (fun _ _ _ _ _ _=>b1 fun _=>rfl) (fun cdv A outer s H vs Q E hr hw h=>?_)
 ·obtain⟨_,_,_,_,_,_,_,rfl,_⟩:=h
  rfl
 ·obtain⟨t,dx,vp,ba,vf,vo,b,rfl,ht,hb,okb,okt,h1,h2⟩:=h
  have hr1:Room 1 _:=hr.mono (by decide)
  refine⟨_,zAe (zCk (zA6 zF9 (zAh (E:=E0) Ch hr1 (by rfl) mh zAm (zAa (zAl (pv 0) rfl) zAd)) (zAr (v:= .int 150) (by rfl) c1 ⟨t1,rfl⟩) (zA0 _)) (zAf (zDg hw rfl (by rfl) N.gl PySem.F.excBase_Exception N.ex)) zA5)
   (zAf (zAi (zAh (E:=E0) Ci hr (by rfl) mi zAm (zAa (zAl (pv 0) rfl) zAd)))),?_⟩
  rw[zD7 okb okt]at h1 h2
  refine (zq rfl (zf ht B.cl B.n2 (yAc _ _ _ _) ⟨ba,b,rfl,hb,okb,_,(zq rfl ⟨rfl,(zq rfl ?_)⟩)⟩))
  refine zD2 (fun e=>?_) fun e=>?_
  ·have e:(150:Int) < (zAz (VametBase.width b) b.long:Nat):=of_decide_eq_true e
   exact h1 (by omega) H (Same.refl H)
  ·have e:¬(150:Int) < (zAz (VametBase.width b) b.long:Nat):=fun z=>e (decide_eq_true z)
   refine (zq rfl (zf ht B.cl B.n2 (yAc _ _ _ _) ⟨ba,b,rfl,hb,okb,okt,fun H1 v1 e1 d1=>?_⟩))
   rw[<-(zDu okb (by omega)).2]at d1
   exact h2 (by omega) H1 v1 e1 d1
end
open VametBase (within)
theorem zKe{f:zBc}{g:zH6}(h:zG7 g)(xs:List zC0):(Vametc.found f xs g).length<=336:=by
 rw[zG8]
 have:=List.length_filter_le (fun k=>((Vametc.candidates g)[k]?).any (Vametc.held f xs)) (List.range (Vametc.candidates g).length)
 have:=zQo h
 rw[List.length_range]at *
 omega
theorem zQz{f:zBc}{g:zH6}(h:zG7 g)(xs:List zC0):(Vametc.strongFound f xs g).length<=336:=by
 rw[zCy]
 exact Nat.le_trans (List.length_filter_le _ _) (zKe h xs)
noncomputable def zCb(g:zH6)(n:Int):Option VametBase.Relation:=if n < 0 then none else(Vametc.candidates g)[n.toNat]?
noncomputable def zGl(os:List zBc)(n:Int):Option zBc:=if n < 0 then none else os[n.toNat]?
section
variable {P:Program} {w:World} {K:PySem.W.Frag} {mg:Str->Option Value} {base:Heap} {CB CF CO CC CN CX CR CY CT fB0 fF0 fO0 fC0 fR0:Addr} {Ref:List (Addr×Int)}
noncomputable abbrev zWz:Stmt:=top 121
theorem zW0:zAg ["told","number"] ["told","number"] (zAc zWz):= fsc
noncomputable def zOx(CF CO CR CY:Addr):Sp:=fun vs H Q E=>∃(t dx:Addr) (vp vb vf vo:V) (A:Hp) (g:zH6) (n:Int),vs= [.ref t,.int n]/\H t=some (.ins CO dx (oF vp vb vf vo))/\Same A H/\FamAt CF A vf g/\zG7 g/\(match zCb g n with
 | none=>∀H',Same H H'->E (.ref CY) none H'
 | some r=>∀H' v,Same H H'->RelAt CR (mix A H H') v r->Q v H')
theorem zW1{f fM fO:Addr}(F:DefAt K mg "relation_numbered" zWz f)(B:zB3 K mg CO fO0)(N:zCr K mg "NoSuchRelation" CY)(mM:mg "how_many_relations" =some (.ref fM))(CM:L2.Callee P w K mg base 1 fM ["family"] (zNw CF))
  (mO:mg "relation_of" =some (.ref fO)) (CO':L2.Callee P w K mg base 3 fO ["family","number"] (zUu CF CR)):L2.Callee P w K mg base 4 f ["told","number"] (zOx CF CO CR CY):=by
 refine F.calleeE zW0 (fun vs H Q E h=>?_) (fun _ _ _ _ _ _=>b2 fun _ _=>rfl) (fun cdv A outer s H vs Q E hr hw h=>?_)
 ·obtain⟨_,_,_,_,_,_,_,_,_,rfl,_⟩:=h
  rfl
 ·obtain⟨t,dx,vp,vb,vf,vo,Ar,g,n,rfl,ht,sA,hF,okg,k⟩:=h
  have hr1:Room 1 _:=hr.mono (by decide)
  refine⟨_,zAe (zCk (zJn (zA6 zMg (pv 1) zAp (zA0 _)) (zHp (zA6 zRh (pv 1) (zAh (E:=E0) CM hr1 (by rfl) mM zAm (zAa (zAl (pv 0) rfl) zAd)) (zA0 _)))).pt (zAf (zDg hw rfl (by rfl) N.gl PySem.F.excBase_Exception N.ex)) zA5)
   (zAf (zAi (zAh (E:=E0) CO' hr (by rfl) mO zAm (zAa (zAl (pv 0) rfl) (zAa (pv 1) zAd))))),?_⟩
  unfold zCb at k
  refine (zq rfl ⟨_,(zq rfl ⟨rfl,(zq rfl ?_)⟩)⟩)
  refine zD2 (fun e=>?_) fun e=>?_
  ·rw[if_pos (of_decide_eq_true e)]at k
   exact zE6 (k H (Same.refl H))
  have e:¬n < 0:=fun z=>e (decide_eq_true z)
  rw[if_neg e]at k
  refine (zq rfl (zq rfl (zf ht B.cl B.n3 (zVd _ _ _ _) ⟨vf,g,rfl,hF.same sA,okg,_,(zq rfl ⟨rfl,(zq rfl ?_)⟩)⟩)))
  refine zD2 (fun e2=>?_) fun e2=>?_
  ·have e2:((Vametc.candidates g).length:Int)<=n:=of_decide_eq_true e2
   rw[List.getElem?_eq_none (by omega)]at k
   exact k H (Same.refl H)
  ·have e2:¬((Vametc.candidates g).length:Int)<=n:=fun z=>e2 (decide_eq_true z)
   obtain⟨r,hr0⟩:=zDh (l:=Vametc.candidates g) (i:=n.toNat) (by omega)
   rw[hr0]at k
   refine (zq rfl (zf ht B.cl B.n3 (zVd _ _ _ _) (zq rfl ⟨Ar,vf,g,n.toNat,r,?_,sA,hF,okg,hr0,k⟩)))
   rw[Int.toNat_of_nonneg (by omega)]
noncomputable abbrev zW2:Stmt:=top 122
theorem zW3:zAg ["told","number"] ["told","number"] (zAc zW2):= fsc
noncomputable def zW4(CO CY:Addr):Sp:=fun vs H Q E=>∃(t dx:Addr) (vp vb vf vo:V) (os:List zBc) (n:Int),vs= [.ref t,.int n]/\H t=some (.ins CO dx (oF vp vb vf vo))/\Dm H vo (.list (os.map zBt))/\(match zGl os n with
 | none=>E (.ref CY) none H
 | some p=>∀v,Dm H v (zBt p)->Q v H)
theorem zW5{f:Addr}(F:DefAt K mg "other_numbered" zW2 f)(Bl:Blt mg)(B:zB3 K mg CO fO0)(N:zCr K mg "NoSuchProgram" CY):L2.Callee P w K mg base 1 f ["told","number"] (zW4 CO CY):=by
 refine F.calleeE zW3 (fun vs H Q E h=>?_) (fun _ _ _ _ _ _=>b2 fun _ _=>rfl) (fun cdv A outer s H vs Q E hr hw h=>?_)
 ·obtain⟨_,_,_,_,_,_,_,_,rfl,_⟩:=h
  rfl
 ·obtain⟨t,dx,vp,vb,vf,vo,os,n,rfl,ht,do_,k⟩:=h
  obtain⟨oa,ox,rfl,hoa,hox⟩:=Dm.list_inv do_
  have hol:ox.length=os.length:=by rw[hox.length,List.length_map]
  refine⟨_,zAe (zCk (zJn (zA6 zMg (pv 1) zAp (zA0 _)) (zHp (zA6 zRh (pv 1) (zAn zAk (by rfl) Bl.len PySem.boot_len (zAa (zAl (pv 0) rfl) zAd)) (zA0 _)))).pt (zAf (zDg hw rfl (by rfl) N.gl PySem.F.excBase_Exception N.ex)) zA5)
   (zAf (zAi (zBi zBj (zAl (pv 0) rfl) (pv 1) (fun _ _=>rfl)))),?_⟩
  unfold zGl at k
  refine (zq rfl ⟨_,(zq rfl ⟨rfl,(zq rfl ?_)⟩)⟩)
  refine zD2 (fun e=>?_) fun e=>?_
  ·rw[if_pos (of_decide_eq_true e)]at k
   exact zE6 k
  have e:¬n < 0:=fun z=>e (decide_eq_true z)
  rw[if_neg e]at k
  refine (zq rfl (zq rfl (zf ht B.cl B.n4 (zWy _ _ _ _) ⟨oa,(zq rfl ⟨.inl (SqL.of hoa),_,(zq rfl ⟨rfl,(zq rfl ?_)⟩)⟩)⟩)))
  rw[hol]
  refine zD2 (fun e2=>?_) fun e2=>?_
  ·have e2:(os.length:Int)<=n:=of_decide_eq_true e2
   rw[List.getElem?_eq_none (by omega)]at k
   exact k
  ·have e2:¬(os.length:Int)<=n:=fun z=>e2 (decide_eq_true z)
   obtain⟨p,hp0⟩:=zDh (l:=os) (i:=n.toNat) (by omega)
   rw[hp0]at k
   obtain⟨v,hv,dv⟩:=hox.at (i:=n.toNat) (d:=zBt p) (by rw[List.getElem?_map,hp0];rfl)
   refine (zq rfl (zf ht B.cl B.n4 (zWy _ _ _ _) (zq rfl ⟨oa,_,_,(zq rfl ⟨rfl,SqL.of hoa,?_,k v dv⟩)⟩)))
   have:=zAw hv
   rwa [Int.toNat_of_nonneg (by omega)]at this
noncomputable abbrev zW6:Stmt:=top 123
theorem zW7:zAg ["told"] ["told"] (zAc zW6):= fsc
noncomputable def zOy(CB CF CO CX:Addr)(G:zBc->List zC0->zH6->List Nat):Sp:=fun vs H Q E=>∃(t dx:Addr) (vp:V) (ba:Addr) (vf vo:V) (st:Vametc.State),vs= [.ref t]/\H t=some (.ins CO dx (oF vp (.ref ba) vf vo))/\ToldIn CB CF H vp ba vf vo st/\zQy st/\
 (150 < VametBase.inputCount st.bound->∀H',Same H H'->E (.ref CX) none H')/\(¬150 < VametBase.inputCount st.bound->∀H' v,Same H H'->Dm (mix A0 H H') v (zCl ((G st.program (Vametc.inputsOf st.bound) st.family).map VametBase.int))->Q v H')
theorem zW8{f fh fi:Addr}(F:DefAt K mg "found_now" zW6 f)(B:zB3 K mg CO fO0)
  (mh:mg "held_relations" =some (.ref fh)) (Ch:L2.Callee P w K mg base 7 fh ["program","family","inputs"] (yA8 CF)) (mi:mg "inputs_tried" =some (.ref fi)) (Ci:L2.Callee P w K mg base 3 fi ["told"] (zVe CB CO CX)):
  L2.Callee P w K mg base 8 f ["told"] (zOy CB CF CO CX Vametc.found):=by
 refine F.calleeE zW7 (fun vs H Q E h=>?_) (fun _ _ _ _ _ _=>b1 fun _=>rfl) (fun cdv A outer s H vs Q E hr hw h=>?_)
 ·obtain⟨_,_,_,_,_,_,_,rfl,_⟩:=h
  rfl
 ·obtain⟨t,dx,vp,ba,vf,vo,st,rfl,ht,hin,okS,k1,k2⟩:=h
  have hr3:Room 3 _:=hr.mono (by decide)
  refine⟨_,zAf (zAi (zAh (E:=E0) Ch hr (by rfl) mh zAm (zAa (zAl (pv 0) rfl) (zAa (zAl (pv 0) rfl) (zAa (zAh (E:=E) Ci hr3 (by rfl) mi hw (zAa (pv 0) zAd)) zAd))))),?_⟩
  refine (zq rfl (zf ht B.cl B.n1 (yAb _ _ _ _) (zq rfl (zf ht B.cl B.n3 (zVd _ _ _ _) (zq rfl ⟨t,dx,_,_,_,_,st.bound,rfl,ht,hin.b,okS.bd,okS.bt,k1,fun e H1 v1 e1 d1=>?_⟩)))))
  have e0:=e
  rw[zD7 okS.bd okS.bt]at e
  obtain⟨okx,_⟩:=zDu okS.bd (by omega)
  refine ⟨_,_,_,st.program,st.family,(zq rfl ⟨hin.p.same e1,hin.f.same e1,d1.same (zBs zBv e1),okS.pr,okS.fm,okx,fun H2 v2 e2 d2=>?_⟩)⟩
  exact k2 e0 H2 v2 (e1.trans e2) (d2.same (Keep.mixN (r:=t) (Keep.of e1)))
noncomputable abbrev zW9:Stmt:=top 124
theorem zXa:zAg ["told"] ["told"] (zAc zW9):= fsc
theorem zXb{f fs ff:Addr}(F:DefAt K mg "strongest_now" zW9 f)(B:zB3 K mg CO fO0)
  (ms:mg "strongest_of" =some (.ref fs)) (Cs:L2.Callee P w K mg base 6 fs ["family","numbers"] (yBj CF)) (mf:mg "found_now" =some (.ref ff)) (Cf:L2.Callee P w K mg base 8 ff ["told"] (zOy CB CF CO CX Vametc.found)):
  L2.Callee P w K mg base 9 f ["told"] (zOy CB CF CO CX Vametc.strongFound):=by
 refine F.calleeE zXa (fun vs H Q E h=>?_) (fun _ _ _ _ _ _=>b1 fun _=>rfl) (fun cdv A outer s H vs Q E hr hw h=>?_)
 ·obtain⟨_,_,_,_,_,_,_,rfl,_⟩:=h
  rfl
 ·obtain⟨t,dx,vp,ba,vf,vo,st,rfl,ht,hin,okS,k1,k2⟩:=h
  have hr6:Room 6 _:=hr.mono (by decide)
  refine⟨_,zAf (zAi (zAh (E:=E0) Cs hr6 (by rfl) ms zAm (zAa (zAl (pv 0) rfl) (zAa (zAh (E:=E) Cf hr (by rfl) mf hw (zAa (pv 0) zAd)) zAd)))),?_⟩
  refine (zq rfl (zf ht B.cl B.n3 (zVd _ _ _ _) (zq rfl ⟨t,dx,_,_,_,_,st,rfl,ht,hin,okS,k1,fun e H1 v1 e1 d1=>?_⟩)))
  have fl:=zKe (f:=st.program) okS.fm (Vametc.inputsOf st.bound)
  refine⟨_,_,st.family,Vametc.found st.program (Vametc.inputsOf st.bound) st.family,rfl,hin.f.same e1,okS.fm,d1.same (zBs zBv e1),(fun k hk=>zJk hk),(zE0 _ _ _).imp (fun h=>Nat.ne_of_lt h),(by omega),fun H2 v2 e2 d2=>?_⟩
  refine k2 e H2 v2 (e1.trans e2) ?_
  rw[zCy]
  exact d2.same (Keep.mixN (r:=t) (Keep.of e1))
noncomputable abbrev zXc:Stmt:=top 125
theorem zXd:zAg ["numbers"] ["numbers"] (zAc zXc):= fsc
noncomputable def zYd:Sp:=fun vs H Q _=>∃(v:V) (l:List Nat),vs= [v]/\Dm H v (zFj l)/\l.length<=1000/\∀H' p,Same H H'->H p=none->H' p=some (.lst ((VametBase.listed l).map V.int))->Q (.ref p) H'
theorem zXe{f:Addr}(F:DefAt K mg "with_count" zXc f)(Bl:Blt mg):L2.Callee P w K mg base 1 f ["numbers"] zYd:=by
 refine F.callee0 zXd (fun vs H Q E h=>?_) (fun _ _ _ _ _ _=>b1 fun _=>rfl) (fun cdv A outer s H vs Q E hr h=>?_)
 ·obtain⟨_,_,rfl,_⟩:=h
  rfl
 ·obtain⟨v,l,rfl,dv,hl,k⟩:=h
  obtain⟨a2,rfl,ha2⟩:=Dm.row_inv dv
  refine⟨_,zAf (zAi (zC3 zK6 (zA4 (zAa (zAn zAk (by rfl) Bl.len PySem.boot_len (zAa (pv 0) zAd)) zAd)) (pv 0))),?_⟩
  refine (zq rfl ⟨a2,(zq rfl ⟨.inl (SqL.of ha2),(by show 1<=sizeLine;decide),fun a ha=>(zq rfl ⟨a,a2,_,(zq rfl ⟨rfl,zAb,Same.upd ha _ _ ha2,?_,fun p hp=>?_⟩)⟩)⟩)⟩)
  ·rw[List.length_map,zEv]
   exact zEa (by show 1+ _<=_;omega)
  have s3:=(Same.upd (o:= .lst [.int ((((zEu l).map V.int).length:Nat):Int)]) ha).trans (Same.upd (o:= .lst ([.int ((((zEu l).map V.int).length:Nat):Int)] ++ (zEu l).map V.int)) hp)
  refine k _ p s3 ((Same.upd ha).free hp) ?_
  rw[zAb]
  unfold VametBase.listed
  rw[List.map_cons,List.length_map,zEv]
  rfl
noncomputable abbrev zXf:Stmt:=top 126
theorem zXg:zAg ["is_so"] ["is_so"] (zAc zXf):= fsc
noncomputable def yAj:Sp:=fun vs H Q _=>∃(b:Bool),vs= [.bl b]/\∀H' p,Same H H'->H p=none->H' p=some (.lst [.int (Vametc.bool b)])->Q (.ref p) H'
theorem zXh{f:Addr}(F:DefAt K mg "one_if" zXf f):L2.Callee P w K mg base 1 f ["is_so"] yAj:=by
 refine F.callee0 zXg (fun vs H Q E h=>?_) (fun _ _ _ _ _ _=>b1 fun _=>rfl) (fun cdv A outer s H vs Q E hr h=>?_)
 ·obtain⟨_,rfl,_⟩:=h
  rfl
 ·obtain⟨b,rfl,k⟩:=h
  refine⟨_,zAf (zAi (zA4 (zAa (zDf (zBb (pv 0) (fun _=>rfl)) zAp zAp) zAd))),?_⟩
  refine (zq rfl (zq rfl ?_))
  have one:(1:Nat)<=sizeLine:=by decide
  cases b with
  | true=>exact zE6 ⟨one,fun p hp=>k _ p (Same.upd hp) hp zAb⟩
  | false=>exact zG3 ⟨one,fun p hp=>k _ p (Same.upd hp) hp zAb⟩
end
open VametBase (within)
theorem in3{Pr:Addr->Prop}{la ra ca:Addr}(h1:Pr la)(h2:Pr ra)(h3:Pr ca):∀b∈[la,ra,ca],Pr b:=fun b hb=>by
 simp only [List.mem_cons,List.not_mem_nil,or_false]at hb
 rcases hb with rfl | rfl | rfl <;> assumption
theorem zQ0(l:List Int)(h:(1:Int)∈l):∃j,l.findIdx? (· == 1)=some j/\l[j]? =some 1/\∀m z,m < j->l[m]? =some z->z≠1:=by
 cases e:l.findIdx? (· == 1)with
 | none=>
  rw[List.findIdx?_eq_none_iff]at e
  have:=e 1 h
  simp at this
 | some j=>
  rw[List.findIdx?_eq_some_iff_getElem]at e
  obtain⟨hj,h1,h2⟩:=e
  refine⟨j,rfl,?_,fun m z hm hz=>?_⟩
  ·rw[List.getElem?_eq_getElem hj,eq_of_beq h1]
  ·intro q
   have:=h2 m hm
   rw[(List.getElem?_eq_some_iff.mp hz).2,q]at this
   simp at this
theorem zOz(l:List Int)(h:¬(1:Int)∈l):l.findIdx? (· == 1)=none:=by
 rw[List.findIdx?_eq_none_iff]
 intro x hx
 exact beq_eq_false_iff_ne.mpr fun e=>h (by rw[<-e];exact hx)
section
variable {c:List (List Int)} {k:Vametc.Call}
theorem yAk(h:VametcNeutral.callOf c=some k)(hn:∃xs rows,c=(6::xs)::rows):c= [[6]]/\k= .strongest:=by
 obtain⟨xs,rows,rfl⟩:=hn
 rcases xs with _ | ⟨x,xs⟩ <;> rcases rows with _ | ⟨l,rows⟩ <;> first | exact⟨rfl,(Option.some.inj h).symm⟩ | cases(show none=some k from h)
theorem yAl(h:VametcNeutral.callOf c=some k)(hn:∃xs rows,c=(7::xs)::rows):∃n,c= [[7,n]]/\k= .relation n:=by
 obtain⟨xs,rows,rfl⟩:=hn
 rcases xs with _ | ⟨x,_ | ⟨y,xs⟩⟩ <;> rcases rows with _ | ⟨l,rows⟩ <;> first | exact (zq rfl ((Option.some.inj h).symm)) | cases(show none=some k from h)
theorem yAm(h:VametcNeutral.callOf c=some k)(hn:∃xs rows,c=(8::xs)::rows):∃n m,c= [[8,n,m]]/\k= .says n m:=by
 obtain⟨xs,rows,rfl⟩:=hn
 rcases xs with _ | ⟨x,_ | ⟨y,_ | ⟨z,xs⟩⟩⟩ <;> rcases rows with _ | ⟨l,rows⟩ <;> first | exact ⟨_,(zq rfl ((Option.some.inj h).symm))⟩ | cases(show none=some k from h)
theorem yAn(h:VametcNeutral.callOf c=some k)(hn:∃xs rows,c=(9::xs)::rows):∃n l,c= [[9,n],l]/\k= .follows l n:=by
 obtain⟨xs,rows,rfl⟩:=hn
 rcases xs with _ | ⟨x,_ | ⟨y,xs⟩⟩ <;> rcases rows with _ | ⟨l,_ | ⟨m,rows⟩⟩ <;> first | exact ⟨_,(zq rfl ((Option.some.inj h).symm))⟩ | cases(show none=some k from h)
theorem zXi(h:VametcNeutral.callOf c=some k)(hn:∃xs rows,c=(10::xs)::rows):∃n m,c= [[10,n,m]]/\k= .by_ n m:=by
 obtain⟨xs,rows,rfl⟩:=hn
 rcases xs with _ | ⟨x,_ | ⟨y,_ | ⟨z,xs⟩⟩⟩ <;> rcases rows with _ | ⟨l,rows⟩ <;> first | exact ⟨_,(zq rfl ((Option.some.inj h).symm))⟩ | cases(show none=some k from h)
theorem zXj(h:VametcNeutral.callOf c=some k)(hn:∃xs rows,c=(11::xs)::rows):c= [[11]]/\k= .least:=by
 obtain⟨xs,rows,rfl⟩:=hn
 rcases xs with _ | ⟨x,xs⟩ <;> rcases rows with _ | ⟨l,rows⟩ <;> first | exact⟨rfl,(Option.some.inj h).symm⟩ | cases(show none=some k from h)
end
section
variable {P:Program} {w:World} {K:PySem.W.Frag} {mg:Str->Option Value} {base:Heap} {CB CF CO CC CN CX CR CY CP CT fB0 fF0 fO0 fC0 fR0 fT fL fR fF fV fH fA:Addr} {Ref:List (Addr×Int)}
noncomputable abbrev s99:Stmt:=top 131
theorem sc99:zAg ["told","call","relation","verdicts","first_broken"] ["told","call"] (zAc s99):= fsc
theorem yFd{f fw f1 fi:Addr}(F:DefAt K mg "answer_held" s99 f)(B:zB3 K mg CO fO0)(BC:zCw K mg CC fC0)(BT:zB6 K mg CT fT fL fR fF fV fH fA)(hRef:(CN,-1)∈Ref)(hRef7:(CX,-7)∈Ref)(c0:zDc mg "KEPT" 0)(c1:zDc mg "BROKEN" 1)(c2:zDc mg "OFF" 2)
  (mw:mg "read_whole" =some (.ref fw)) (m1:mg "read_relation" =some (.ref f1)) (Cw:L2.Callee P w K mg base 9 fw ["numbers","read_thing"] (zUn K CN VametBase.readRelation (fun r A v=>RelAt CR A v r) f1))
  (CI:L2.Callee P w K mg base 4 fT ["self","program","inputs"] (zVb P w CT)) (CV:L2.Callee P w K mg base 5 fV ["self","relation"] (zZl P w CR CT)) (mi:mg "inputs_tried" =some (.ref fi)) (Ci:L2.Callee P w K mg base 3 fi ["told"] (zVe CB CO CX)):
  L2.Callee P w K mg base 10 f ["told","call"] (spA CB CF CO CC Ref 4):=by
 obtain⟨t0,c0⟩:=c0
 obtain⟨t1,c1⟩:=c1
 obtain⟨t2,c2⟩:=c2
 refine F.calleeE sc99 zC4 (fun _ _ _ _ _ _=>b2 fun _ _=>rfl) (fun cdv A outer s H vs Q E hr hw h=>?_)
 obtain⟨t,v,Ar,st,c,k,rfl,hT,hC,okS,okr,hn,hk,hE,hQ⟩:=h
 obtain⟨l,rfl,rfl⟩:=yAh hk hn
 obtain⟨sA,hAt,dx,vp,ba,vf,vo,ht,hin⟩:=id hT
 obtain⟨ca,cdx,vv,rv,rfl,hca,dvv,drv⟩:=hC.inv
 obtain⟨ra,rx,rfl,hra,hrx⟩:=Dm.list_inv drv
 obtain⟨lv,hlv,dlv⟩:=hrx.at (i:=0) (d:=zCl l) rfl
 obtain⟨la,rfl,hla⟩:=Dm.row_inv dlv
 have hr3:Room 3 _:=hr.mono (by decide)
 have hr5:Room 5 _:=hr.mono (by decide)
 refine⟨_,zAe (zAq (i:=2) sc99.nd rfl (Or.inl rfl) (zAh (E:=E) Cw hr (by rfl) mw hw (zAa (zBi zBj (zAl (pv 1) rfl) zAp (fun _ _=>rfl)) (zAa (zAr (v:= .ref f1) (by rfl) m1 rfl) zAd))))
  (zAe (zAq (i:=3) sc99.nd rfl (Or.inl rfl) (zBq (E:=E0) (zB0 (E:=E0) BT.make CI hr5 (by rfl) BT.gl zAm (zAa (zAl (pv 0) rfl) (zAa (zAh (E:=E) Ci hr3 (by rfl) mi hw (zAa (pv 0) zAd)) zAd))) BT.cl BT.mV CV hr5 zAm (zAa (pv 2) zAd)))
  (zAe (zAq (i:=4) sc99.nd rfl (Or.inl rfl) (zDf (zA6 zFt (zAr (v:= .int 1) (by rfl) c1 ⟨t1,rfl⟩) (pv 3) (by with_unfolding_all rfl)) (zFc PySem.F.plainAttrs_list PySem.F.slot_list_index PySem.F.type_list_index zRq (pv 3) (zAa (zAr (v:= .int 1) (by rfl) c1 ⟨t1,rfl⟩) zAd)) (zIg zE5 zAp)))
  (zAf (zAi (zA4 (zAa (zFc PySem.F.plainAttrs_list PySem.F.slot_list_count PySem.F.type_list_count zH3 (pv 3) (zAa (zAr (v:= .int 0) (by rfl) c0 ⟨t0,rfl⟩) zAd)) (zAa (zFc PySem.F.plainAttrs_list PySem.F.slot_list_count PySem.F.type_list_count zH3 (pv 3) (zAa (zAr (v:= .int 1) (by rfl) c1 ⟨t1,rfl⟩) zAd)) (zAa (zFc PySem.F.plainAttrs_list PySem.F.slot_list_count PySem.F.type_list_count zH3 (pv 3) (zAa (zAr (v:= .int 2) (by rfl) c2 ⟨t2,rfl⟩) zAd)) (zAa (pv 4) zAd))))))))),?_⟩
 refine (zq rfl (zf (sA _ _ hca) BC.cl BC.n3 (zTh _ _ _) ⟨ra,_,_,(zq rfl ⟨rfl,SqL.of (sA _ _ hra),zAw (j:=0) hlv,la,l,rfl,SqL.of (sA _ _ hla),okr l (by simp),?_⟩)⟩))
 have st1:Vametc.step st (.held l)=(match VametBase.whole VametBase.readRelation l with
  | none=>Vametc.refused st (-1)
  | some r=>Vametc.onInputs st fun xs=>let c:=Vametc.countsOf st.program xs r
   [VametBase.int c.kept,VametBase.int c.broken,VametBase.int c.off,match Vametc.firstBroken st.program xs r with
    | none=> -1
    | some k=>VametBase.int k]):=rfl
 cases hwh:VametBase.whole VametBase.readRelation l with
 | none=>
  rw[hwh]at st1
  exact fun H1 e1=>hE CN (-1) H1 hRef e1 st1
 | some q=>
  rw[hwh]at st1
  dsimp only at st1
  obtain⟨rr,hrd⟩:=zCx hwh
  have okq:zL0 q:=zMy hrd
  intro H1 v1 e1 d1
  have hF1:RelAt CR H1 v1 q:=d1.same (zBs zBv e1)
  have ht1:=e1 _ _ ht
  have hin1:=hin.same (sA.trans e1)
  unfold Vametc.onInputs Vametc.GONE at st1
  refine (zq rfl (zf ht1 B.cl B.n1 (yAb _ _ _ _) (zq rfl ⟨t,dx,_,_,_,_,st.bound,rfl,ht1,hin1.b,okS.bd,okS.bt,fun e=>?_,fun e H2 v2 e2 d2=>?_⟩)))
  ·rw[if_pos e]at st1
   exact fun H2 e2=>hE CX (-7) H2 hRef7 (e1.trans e2) st1
  rw[if_neg e]at st1
  rw[st1]at hQ
  rw[zD7 okS.bd okS.bt]at e
  obtain⟨okx,_⟩:=zDu okS.bd (by omega)
  generalize hxs:Vametc.inputsOf st.bound=xs at okx d2 hQ
  intro x xdx hx hxdx hne
  refine⟨x,xdx,vp,v2,H2,st.program,xs,rfl,zAb,zA3 hx hxdx,hx,(hin1.same e2).p,d2.same (zBs zBv e2),okS.pr,okx,fun H3 la' ra' ca' kp nl nr nc T3=>⟨rfl,?_⟩⟩
  have sm:=zA3 (o:= .ins CT xdx []) hx hxdx
  have s3:Same H2 H3:=kp.inA sm hx
  have ol:=sm.free nl
  have or:=sm.free nr
  have oc:=sm.free nc
  obtain⟨dx3,vp3,vi3,vo3,hx3,_⟩:=id T3.ob
  refine ⟨x,dx3,(zq rfl ⟨hx3,zJ6 _ _ _ _ _ _ (by decide +kernel) (by decide +kernel) (by decide +kernel) (by decide +kernel) (by decide +kernel) (by decide +kernel),(zq rfl ⟨[la',ra',ca'],x,la',ra',ca',v1,_,_,0,q,rfl,T3,(hF1.same e2).same (zLw s3 (in3 ol or oc)),okq,okS.pr,okx,(by omega),fun H4 v4 k4 T4 d4=>?_⟩)⟩)⟩
  have s24:Same H2 H4:=k4.inA s3 ol or oc
  obtain⟨va,rfl,hva⟩:=Dm.row_inv d4
  have hva:H4 va=some (.lst ((zAu st.program q xs).map V.int)):=by
   cases z:H3 va with
   | some u=>rw[zA8 z]at hva;cases hva
   | none=>rw[zA7 z]at hva;exact hva
  have s14:=(e1.trans e2).trans s24
  dsimp only at hQ
  rw[zO8,zIe]at hQ
  generalize hvs:zAu st.program q xs=vs at hva hQ
  have fin:∀(z:Int),z=(match vs.findIdx? (· == 1)with | none=> -1 | some k=>VametBase.int k)->∀p,H4 p=none->Q (.ref p) (upd H4 p (.lst [.int (vs.count 0:Nat),.int (vs.count 1:Nat),.int (vs.count 2:Nat),.int z])):=by
   intro z hz p hp
   have s5:=s14.trans (Same.upd (o:= .lst [.int (vs.count 0:Nat),.int (vs.count 1:Nat),.int (vs.count 2:Nat),.int z]) hp)
   have k5:=Keep.of (r:=t) s5
   refine hQ _ _ k5 (hT.put k5 (s5 _ _ ht) (hin.same (zBf sA))) okS (Dm.row (zAs (s14.free hp) ?_))
   rw[zAb,<-hz]
   rfl
  have one:(4:Nat)<=sizeLine:=by decide
  refine (zq rfl ⟨va,(zq rfl ⟨.inl (SqL.of hva),rfl,zDb _,(zq rfl ?_)⟩)⟩)
  rw[if_neg Bool.false_ne_true,zF5]
  refine zD2 (fun e=>?_) fun e=>?_
  ·obtain⟨j,hj,hj1,hj2⟩:=zQ0 vs (of_decide_eq_true e)
   refine (zq rfl ⟨.inl ⟨rfl,_,SqL.of hva⟩,va,_,.int 1,j,.int 1,rfl,rfl,SqL.of hva,rfl,zDb _,(by rw[List.getElem?_map,hj1];rfl),rfl,(fun m z hm hz=>?_),?_⟩)
   ·obtain⟨n,hn,rfl⟩:=zCs hz
    have:=hj2 m n hm hn
    simpa [eqV]using this
   ·refine (zq rfl ⟨.inl ⟨rfl,_,SqL.of hva⟩,va,vs,0,rfl,rfl,SqL.of hva,(zq rfl ⟨.inl ⟨rfl,_,SqL.of hva⟩,va,vs,1,rfl,rfl,SqL.of hva,(zq rfl ⟨.inl ⟨rfl,_,SqL.of hva⟩,va,vs,2,rfl,rfl,SqL.of hva,(zq rfl ⟨one,fun p hp=>fin _ ?_ p hp⟩)⟩)⟩)⟩)
    rw[hj];rfl
  ·refine (zq rfl ?_)
   refine (zq rfl ⟨.inl ⟨rfl,_,SqL.of hva⟩,va,vs,0,rfl,rfl,SqL.of hva,(zq rfl ⟨.inl ⟨rfl,_,SqL.of hva⟩,va,vs,1,rfl,rfl,SqL.of hva,(zq rfl ⟨.inl ⟨rfl,_,SqL.of hva⟩,va,vs,2,rfl,rfl,SqL.of hva,(zq rfl ⟨one,fun p hp=>fin _ ?_ p hp⟩)⟩)⟩)⟩)
   rw[zOz vs (fun z=>e (decide_eq_true z))]
end
open VametBase (within)
section
variable {P:Program} {w:World} {K:PySem.W.Frag} {mg:Str->Option Value} {base:Heap} {CB CF CO CC CN CX CT fB0 fF0 fO0 fC0 fT fV fH:Addr} {Ref:List (Addr×Int)}
noncomputable abbrev s97:Stmt:=top 129
theorem sc97:zAg ["told","call","conditions","input_turnings","output_turnings","ways"] ["told","call"] (zAc s97):= fsc
theorem yFe{f fw f1 f2 f3 fm:Addr}(F:DefAt K mg "answer_family" s97 f)(B:zB3 K mg CO fO0)(BC:zCw K mg CC fC0)(BF:zJc K mg CF fF0)(hRef:(CN,-1)∈Ref)
  (mw:mg "read_whole" =some (.ref fw)) (m1:mg "read_conditions" =some (.ref f1)) (m2:mg "read_turnings" =some (.ref f2)) (m3:mg "read_ways" =some (.ref f3)) (mm:mg "how_many_relations" =some (.ref fm))
  (C1:L2.Callee P w K mg base 9 fw ["numbers","read_thing"] (zUn K CN (VametBase.readListed 0 3 VametBase.readCond) (zH5 fun xs=> .list (xs.map zDq)) f1))
  (C2:L2.Callee P w K mg base 9 fw ["numbers","read_thing"] (zUn K CN (VametBase.readListed 0 4 VametBase.readProgram) (zH5 fun xs=> .list (xs.map zBt)) f2))
  (C3:L2.Callee P w K mg base 9 fw ["numbers","read_thing"] (zUn K CN (VametBase.readListed 0 7 VametBase.readRel) (zH5 fun xs=> .list (xs.map zO7)) f3))
  (CFI:L2.Callee P w K mg base 1 fF0 ["self","conditions","input_turnings","output_turnings","ways"] (zY8 CF)) (Cm:L2.Callee P w K mg base 1 fm ["family"] (zNw CF)):
  L2.Callee P w K mg base 10 f ["told","call"] (spA CB CF CO CC Ref 2):=by
 refine F.calleeE sc97 zC4 (fun _ _ _ _ _ _=>b2 fun _ _=>rfl) (fun cdv A outer s H vs Q E hr hw h=>?_)
 obtain⟨t,v,Ar,st,c,k,rfl,hT,hC,okS,okr,hn,hk,hE,hQ⟩:=h
 obtain⟨l1,l2,l3,l4,rfl,rfl⟩:=yAf hk hn
 obtain⟨sA,hAt,dx,vp,ba,vf,vo,ht,hin⟩:=id hT
 obtain⟨ca,cdx,vv,rv,rfl,hca,dvv,drv⟩:=hC.inv
 obtain⟨ra,rx,rfl,hra,hrx⟩:=Dm.list_inv drv
 obtain⟨lv1,hlv1,dlv1⟩:=hrx.at (i:=0) (d:=zCl l1) rfl
 obtain⟨lv2,hlv2,dlv2⟩:=hrx.at (i:=1) (d:=zCl l2) rfl
 obtain⟨lv3,hlv3,dlv3⟩:=hrx.at (i:=2) (d:=zCl l3) rfl
 obtain⟨lv4,hlv4,dlv4⟩:=hrx.at (i:=3) (d:=zCl l4) rfl
 obtain⟨la1,rfl,hla1⟩:=Dm.row_inv dlv1
 obtain⟨la2,rfl,hla2⟩:=Dm.row_inv dlv2
 obtain⟨la3,rfl,hla3⟩:=Dm.row_inv dlv3
 obtain⟨la4,rfl,hla4⟩:=Dm.row_inv dlv4
 have hr1:Room 1 _:=hr.mono (by decide)
 have hr2:Room 2 _:=hr.mono (by decide)
 refine⟨_,zAe (zAq (i:=2) sc97.nd rfl (Or.inl rfl) (zAh (E:=E) C1 hr (by rfl) mw hw (zAa (zBi zBj (zAl (pv 1) rfl) zAp (fun _ _=>rfl)) (zAa (zAr (v:= .ref f1) (by rfl) m1 rfl) zAd))))
  (zAe (zAq (i:=3) sc97.nd rfl (Or.inl rfl) (zAh (E:=E) C2 hr (by rfl) mw hw (zAa (zBi zBj (zAl (pv 1) rfl) zAp (fun _ _=>rfl)) (zAa (zAr (v:= .ref f2) (by rfl) m2 rfl) zAd))))
  (zAe (zAq (i:=4) sc97.nd rfl (Or.inl rfl) (zAh (E:=E) C2 hr (by rfl) mw hw (zAa (zBi zBj (zAl (pv 1) rfl) zAp (fun _ _=>rfl)) (zAa (zAr (v:= .ref f2) (by rfl) m2 rfl) zAd))))
  (zAe (zAq (i:=5) sc97.nd rfl (Or.inl rfl) (zAh (E:=E) C3 hr (by rfl) mw hw (zAa (zBi zBj (zAl (pv 1) rfl) zAp (fun _ _=>rfl)) (zAa (zAr (v:= .ref f3) (by rfl) m3 rfl) zAd))))
  (zAe (zBn (pv 0) (zB0 (E:=E0) BF.make CFI hr2 (by rfl) BF.gl zAm (zAa (pv 2) (zAa (pv 3) (zAa (pv 4) (zAa (pv 5) zAd))))) rfl)
  (zAf (zAi (zA4 (zAa (zAh (E:=E0) Cm hr1 (by rfl) mm zAm (zAa (zAl (pv 0) rfl) zAd)) zAd)))))))),?_⟩
 have st1:Vametc.step st (.family l1 l2 l3 l4)=(match VametBase.whole (VametBase.readListed 0 3 VametBase.readCond) l1,VametBase.whole (VametBase.readListed 0 4 VametBase.readProgram) l2,VametBase.whole (VametBase.readListed 0 4 VametBase.readProgram) l3,VametBase.whole (VametBase.readListed 0 7 VametBase.readRel) l4 with
  | some a,some b,some d,some e=>let g:zH6:=⟨a,b,d,e⟩
   ({st with family:=g},[VametBase.int (Vametc.candidates g).length])
  | _,_,_,_=>Vametc.refused st (-1)):=rfl
 have hok:∀l∈[l1,l2,l3,l4],l.length<=10000:=fun l hl=>okr l (List.mem_cons_of_mem _ hl)
 refine (zq rfl (zf (sA _ _ hca) BC.cl BC.n3 (zTh _ _ _) ⟨ra,_,_,(zq rfl ⟨rfl,SqL.of (sA _ _ hra),zAw (j:=0) hlv1,la1,l1,rfl,SqL.of (sA _ _ hla1),hok l1 (by simp),?_⟩)⟩))
 cases h1:VametBase.whole (VametBase.readListed 0 3 VametBase.readCond) l1 with
 | none=>
  rw[h1]at st1
  exact fun H1 e1=>hE CN (-1) H1 hRef e1 st1
 | some g1=>
 intro H1 v1 e1 d1
 have sA1:=sA.trans e1
 refine (zq rfl (zf (sA1 _ _ hca) BC.cl BC.n3 (zTh _ _ _) ⟨ra,_,_,(zq rfl ⟨rfl,SqL.of (sA1 _ _ hra),zAw (j:=1) hlv2,la2,l2,rfl,SqL.of (sA1 _ _ hla2),hok l2 (by simp),?_⟩)⟩))
 cases h2:VametBase.whole (VametBase.readListed 0 4 VametBase.readProgram) l2 with
 | none=>
  rw[h1,h2]at st1
  exact fun H2 e2=>hE CN (-1) H2 hRef (e1.trans e2) st1
 | some g2=>
 intro H2 v2 e2 d2
 have e12:=e1.trans e2
 have sA2:=sA.trans e12
 refine (zq rfl (zf (sA2 _ _ hca) BC.cl BC.n3 (zTh _ _ _) ⟨ra,_,_,(zq rfl ⟨rfl,SqL.of (sA2 _ _ hra),zAw (j:=2) hlv3,la3,l3,rfl,SqL.of (sA2 _ _ hla3),hok l3 (by simp),?_⟩)⟩))
 cases h3:VametBase.whole (VametBase.readListed 0 4 VametBase.readProgram) l3 with
 | none=>
  rw[h1,h2,h3]at st1
  exact fun H3 e3=>hE CN (-1) H3 hRef (e12.trans e3) st1
 | some g3=>
 intro H3 v3 e3 d3
 have e13:=e12.trans e3
 have sA3:=sA.trans e13
 refine (zq rfl (zf (sA3 _ _ hca) BC.cl BC.n3 (zTh _ _ _) ⟨ra,_,_,(zq rfl ⟨rfl,SqL.of (sA3 _ _ hra),zAw (j:=3) hlv4,la4,l4,rfl,SqL.of (sA3 _ _ hla4),hok l4 (by simp),?_⟩)⟩))
 cases h4:VametBase.whole (VametBase.readListed 0 7 VametBase.readRel) l4 with
 | none=>
  rw[h1,h2,h3,h4]at st1
  exact fun H4 e4=>hE CN (-1) H4 hRef (e13.trans e4) st1
 | some g4=>
 rw[h1,h2,h3,h4]at st1
 dsimp only at st1
 rw[st1]at hQ
 intro H4 v4 e4 d4
 have e14:=e13.trans e4
 obtain⟨_,r1⟩:=zCx h1
 obtain⟨_,r2⟩:=zCx h2
 obtain⟨_,r3⟩:=zCx h3
 obtain⟨_,r4⟩:=zCx h4
 obtain⟨n1,_⟩:=zDt (Pr:=fun _=>True) (fun _ _ _ _=>trivial) r1
 obtain⟨n2,p2⟩:=zDt (Pr:=zBy) (fun _ _ _ e=>zGk e) r2
 obtain⟨n3,p3⟩:=zDt (Pr:=zBy) (fun _ _ _ e=>zGk e) r3
 obtain⟨n4,_⟩:=zDt (Pr:=fun _=>True) (fun _ _ _ _=>trivial) r4
 have okg:zG7 ⟨g1,g2,g3,g4⟩:=⟨n1,n2,n3,n4,p2,p3⟩
 refine (zq rfl (zq rfl (zq rfl (zq rfl (fun x xdx hx hxdx hne=>⟨x,xdx,v1,v2,v3,v4,rfl,zAb,rfl,?_⟩)))))
 rw[zBh]
 have s5:Same H4 (upd (upd H4 xdx (.own x)) x (.ins CF xdx (fF v1 v2 v3 v4))):=zA3 hx hxdx
 generalize hH5:upd (upd H4 xdx (.own x)) x (.ins CF xdx (fF v1 v2 v3 v4))=H5 at s5
 have x5:H5 x=some (.ins CF xdx (fF v1 v2 v3 v4)):=by rw[<-hH5];exact zAb
 have e15:=e14.trans s5
 have ht5:=e15 _ _ ht
 have hHt:(H t).isSome=true:=by rw[ht];rfl
 have hxH:H x=none:=e14.free hx
 have hxt:x≠t:=fun z=>by rw[z,ht]at hxH;cases hxH
 refine (zq rfl ⟨t,CO,dx,(zq rfl ⟨ht5,B.cl,B.n3,zN7 _ _ _ _,?_⟩)⟩)
 rw[zU1]
 have k5:Keep t H5 (upd H5 t (.ins CO dx (oF vp (.ref ba) (.ref x) vo))):=Keep.upd (by rw[ht5];rfl)
 have nf:∀H6,Keep t H5 H6->FamAt CF (mix Ar H H6) (.ref x) ⟨g1,g2,g3,g4⟩:=fun H6 k6=>by
  refine⟨x,xdx,v1,v2,v3,v4,rfl,zAs hxH (k6.1 _ _ x5 hxt),?_,?_,?_,?_⟩
  ·exact Dm.same (zD8 ((Keep.of (((e2.trans e3).trans e4).trans s5)).trans k6) hHt) d1
  ·exact Dm.same (zD8 ((Keep.of ((e3.trans e4).trans s5)).trans k6) hHt) (Dm.same (Keep.mixN (r:=t) (Keep.of e1)) d2)
  ·exact Dm.same (zD8 ((Keep.of (e4.trans s5)).trans k6) hHt) (Dm.same (Keep.mixN (r:=t) (Keep.of e12)) d3)
  ·exact Dm.same (zD8 ((Keep.of s5).trans k6) hHt) (Dm.same (Keep.mixN (r:=t) (Keep.of e13)) d4)
 have sI:Same (mix Ar H (upd H5 t (.ins CO dx (oF vp (.ref ba) (.ref x) vo)))) (upd H5 t (.ins CO dx (oF vp (.ref ba) (.ref x) vo))):=((Keep.of e15).trans k5).mixI sA hAt
 refine (zq rfl (zf zAb B.cl B.n3 (zVd _ _ _ _) ⟨.ref x,⟨g1,g2,g3,g4⟩,rfl,(nf _ k5).same sI,okg,(by show 1<=sizeLine;decide),fun a ha=>?_⟩))
 have k6:=k5.trans (Keep.of (r:=t) (Same.upd (o:= .lst [.int ((Vametc.candidates ⟨g1,g2,g3,g4⟩).length:Nat)]) ha))
 have k7:=(Keep.of (r:=t) e15).trans k6
 refine hQ _ _ k7 (hT.put k7 (Same.upd ha _ _ zAb) ⟨(hin.same (zBf sA)).p,(hin.same (zBf sA)).b,nf _ k6,(hin.same (zBf sA)).o⟩) ⟨okS.pr,okS.bd,okS.bt,okg,okS.ol,okS.op⟩ ?_
 exact Dm.row (zAs (e15.free (k5.free ha)) zAb)
end
open VametBase (within)
theorem zEm{CB CF CO:Addr}{A H H':Hp}{t p:Addr}{st:Vametc.State}{k:Vametc.Call}{Q:VK}{l:zC0}(hT:ToldAt CB CF CO A H t st)(okS:zQy st)
  (hQ:∀H' v,Keep t H H'->ToldAt CB CF CO (mix A H H') H' t (Vametc.step st k).1->zQy (Vametc.step st k).1->Dm (mix A H H') v (zCl (Vametc.step st k).2)->Q v H')
  (hs:Vametc.step st k=(st,l)) (e:Same H H') (hp:H p=none) (h:H' p=some (.lst (l.map V.int))):Q (.ref p) H':=by
 obtain⟨sA,hAt,dx,vp,ba,vf,vo,ht,hin⟩:=id hT
 rw[hs]at hQ
 have k3:=Keep.of (r:=t) e
 exact hQ _ _ k3 (hT.put k3 (e _ _ ht) (hin.same (zBf sA))) okS (Dm.row (zAs hp h))
theorem zO0(st:Vametc.State):Vametc.step st .found=Vametc.onInputs st fun xs=>VametBase.listed (Vametc.found st.program xs st.family):=rfl
theorem zIo(st:Vametc.State):Vametc.step st .strongest=Vametc.onInputs st fun xs=>VametBase.listed (Vametc.strongFound st.program xs st.family):=rfl
theorem zKf(st:Vametc.State)(n:Int):Vametc.step st (.relation n)=match zCb st.family n with
  | none=>(st,[-2])
  | some r=>(st,VametBase.flatRelation r):=rfl
theorem zQ1(st:Vametc.State)(n m:Int):Vametc.step st (.says n m)=match zCb st.family n with
  | none=>(st,[-2])
  | some r=>(match zCb st.family m with
   | none=>(st,[-2])
   | some q=>(st,[Vametc.bool (Vametc.follows r q)])):=rfl
theorem zU4(st:Vametc.State)(p k:Int):Vametc.step st (.by_ p k)=match zCb st.family k with
  | none=>(st,[-2])
  | some r=>(match zGl st.others p with
   | none=>(st,[-3])
   | some o=>Vametc.onInputs st fun xs=>[Vametc.bool (Vametc.held o xs r)]):=rfl
section
variable {P:Program} {w:World} {K:PySem.W.Frag} {mg:Str->Option Value} {base:Heap} {CB CF CO CC CN CX CR CY CP CT fB0 fF0 fO0 fC0 fR0 fT fL fR fF fV fH fA:Addr} {Ref:List (Addr×Int)}
noncomputable abbrev zXk:Stmt:=top 132
theorem zXl:zAg ["told","call"] ["told","call"] (zAc zXk):= fsc
theorem zXm{f fw fn:Addr}(F:DefAt K mg "answer_found" zXk f)(hRef:(CX,-7)∈Ref)(mw:mg "with_count" =some (.ref fw))(Cw:L2.Callee P w K mg base 1 fw ["numbers"] zYd)(mn:mg "found_now" =some (.ref fn))(Cn:L2.Callee P w K mg base 8 fn ["told"] (zOy CB CF CO CX Vametc.found)):
  L2.Callee P w K mg base 10 f ["told","call"] (spA CB CF CO CC Ref 5):=by
 refine F.calleeE zXl zC4 (fun _ _ _ _ _ _=>b2 fun _ _=>rfl) (fun cdv A outer s H vs Q E hr hw h=>?_)
 obtain⟨t,v,Ar,st,c,k,rfl,hT,hC,okS,okr,hn,hk,hE,hQ⟩:=h
 obtain⟨rfl,rfl⟩:=yAi hk hn
 obtain⟨sA,hAt,dx,vp,ba,vf,vo,ht,hin⟩:=id hT
 have st1:=zO0 st
 unfold Vametc.onInputs Vametc.GONE at st1
 refine⟨_,zAf (zAi (zAh (E:=E0) Cw (hr.mono (by decide)) (by rfl) mw zAm (zAa (zAh (E:=E) Cn (hr.mono (by decide)) (by rfl) mn hw (zAa (pv 0) zAd)) zAd))),?_⟩
 refine (zq rfl ⟨t,dx,vp,ba,vf,vo,st,rfl,ht,hin.same sA,okS,fun e=>?_,fun e H1 v1 e1 d1=>?_⟩)
 ·rw[if_pos e]at st1
  exact fun H1 e1=>hE CX (-7) H1 hRef e1 st1
 ·rw[if_neg e]at st1
  have fl:=zKe (f:=st.program) okS.fm (Vametc.inputsOf st.bound)
  exact ⟨v1,(zq rfl ⟨d1.same (zBs zBv e1),(by omega),fun H2 p e2 hp h2=>zEm hT okS hQ st1 (e1.trans e2) (e1.free hp) h2⟩)⟩
noncomputable abbrev zXn:Stmt:=top 133
theorem zXo:zAg ["told","call"] ["told","call"] (zAc zXn):= fsc
theorem zXp{f fw fn:Addr}(F:DefAt K mg "answer_strongest" zXn f)(hRef:(CX,-7)∈Ref)(mw:mg "with_count" =some (.ref fw))(Cw:L2.Callee P w K mg base 1 fw ["numbers"] zYd)(mn:mg "strongest_now" =some (.ref fn))(Cn:L2.Callee P w K mg base 9 fn ["told"] (zOy CB CF CO CX Vametc.strongFound)):
  L2.Callee P w K mg base 10 f ["told","call"] (spA CB CF CO CC Ref 6):=by
 refine F.calleeE zXo zC4 (fun _ _ _ _ _ _=>b2 fun _ _=>rfl) (fun cdv A outer s H vs Q E hr hw h=>?_)
 obtain⟨t,v,Ar,st,c,k,rfl,hT,hC,okS,okr,hn,hk,hE,hQ⟩:=h
 obtain⟨rfl,rfl⟩:=yAk hk hn
 obtain⟨sA,hAt,dx,vp,ba,vf,vo,ht,hin⟩:=id hT
 have st1:=zIo st
 unfold Vametc.onInputs Vametc.GONE at st1
 refine⟨_,zAf (zAi (zAh (E:=E0) Cw (hr.mono (by decide)) (by rfl) mw zAm (zAa (zAh (E:=E) Cn hr (by rfl) mn hw (zAa (pv 0) zAd)) zAd))),?_⟩
 refine (zq rfl ⟨t,dx,vp,ba,vf,vo,st,rfl,ht,hin.same sA,okS,fun e=>?_,fun e H1 v1 e1 d1=>?_⟩)
 ·rw[if_pos e]at st1
  exact fun H1 e1=>hE CX (-7) H1 hRef e1 st1
 ·rw[if_neg e]at st1
  have fl:=zQz (f:=st.program) okS.fm (Vametc.inputsOf st.bound)
  exact ⟨v1,(zq rfl ⟨d1.same (zBs zBv e1),(by omega),fun H2 p e2 hp h2=>zEm hT okS hQ st1 (e1.trans e2) (e1.free hp) h2⟩)⟩
theorem zKg{g:zH6}{n:Int}{r:VametBase.Relation}(ok:zG7 g)(h:zCb g n=some r):zL0 r:=by
 unfold zCb at h
 split at h
 ·cases h
 ·exact zJ8 ok h
noncomputable abbrev zXq:Stmt:=top 134
theorem zXr:zAg ["told","call"] ["told","call"] (zAc zXq):= fsc
theorem zXs{f fw fn:Addr}(F:DefAt K mg "answer_relation" zXq f)(BC:zCw K mg CC fC0)(hRef:(CY,-2)∈Ref)(mw:mg "relation_as_numbers" =some (.ref fw))(Cw:L2.Callee P w K mg base 3 fw ["relation"] (yBq CR))
  (mn:mg "relation_numbered" =some (.ref fn)) (Cn:L2.Callee P w K mg base 4 fn ["told","number"] (zOx CF CO CR CY)):
  L2.Callee P w K mg base 10 f ["told","call"] (spA CB CF CO CC Ref 7):=by
 refine F.calleeE zXr zC4 (fun _ _ _ _ _ _=>b2 fun _ _=>rfl) (fun cdv A outer s H vs Q E hr hw h=>?_)
 obtain⟨t,v,Ar,st,c,k,rfl,hT,hC,okS,okr,hn,hk,hE,hQ⟩:=h
 obtain⟨n,rfl,rfl⟩:=yAl hk hn
 obtain⟨sA,hAt,dx,vp,ba,vf,vo,ht,hin⟩:=id hT
 obtain⟨ca,cdx,vv,rv,rfl,hca,dvv,drv⟩:=hC.inv
 obtain⟨va,rfl,hva⟩:=Dm.row_inv dvv
 have st1:=zKf st n
 refine⟨_,zAf (zAi (zAh (E:=E0) Cw (hr.mono (by decide)) (by rfl) mw zAm (zAa (zAh (E:=E) Cn (hr.mono (by decide)) (by rfl) mn hw (zAa (pv 0) (zAa (zBi zBj (zAl (pv 1) rfl) zAp (fun _ _=>rfl)) zAd))) zAd))),?_⟩
 refine (zq rfl (zq rfl (zf (sA _ _ hca) BC.cl BC.n2 (zSs _ _ _) ⟨va,_,_,(zq rfl ⟨rfl,SqL.of (sA _ _ hva),zAw (j:=0) rfl,t,dx,vp,_,vf,vo,Ar,st.family,n,rfl,ht,sA,hin.f,okS.fm,?_⟩)⟩)))
 cases hc:zCb st.family n with
 | none=>
  rw[hc]at st1
  exact fun H1 e1=>hE CY (-2) H1 hRef e1 st1
 | some r=>
  rw[hc]at st1
  intro H1 v1 e1 r1
  exact⟨v1,r,rfl,r1.same (zBs sA e1),zKg okS.fm hc,fun H2 p e2 hp h2=>zEm hT okS hQ st1 (e1.trans e2) (e1.free hp) h2⟩
noncomputable abbrev zXt:Stmt:=top 135
theorem scn135:zAg ["told","call","stronger","weaker"] ["told","call"] (zAc zXt):= fsc
theorem zXu{f fo ff fn:Addr}(F:DefAt K mg "answer_says" zXt f)(BC:zCw K mg CC fC0)(hRef:(CY,-2)∈Ref)(mo:mg "one_if" =some (.ref fo))(Co:L2.Callee P w K mg base 1 fo ["is_so"] yAj)(mf:mg "follows_from" =some (.ref ff))(Cf:L2.Callee P w K mg base 3 ff ["relation","other"] (zZx CR))
  (mn:mg "relation_numbered" =some (.ref fn)) (Cn:L2.Callee P w K mg base 4 fn ["told","number"] (zOx CF CO CR CY)):
  L2.Callee P w K mg base 10 f ["told","call"] (spA CB CF CO CC Ref 8):=by
 refine F.calleeE scn135 zC4 (fun _ _ _ _ _ _=>b2 fun _ _=>rfl) (fun cdv A outer s H vs Q E hr hw h=>?_)
 obtain⟨t,v,Ar,st,c,k,rfl,hT,hC,okS,okr,hn,hk,hE,hQ⟩:=h
 obtain⟨n,m,rfl,rfl⟩:=yAm hk hn
 obtain⟨sA,hAt,dx,vp,ba,vf,vo,ht,hin⟩:=id hT
 obtain⟨ca,cdx,vv,rv,rfl,hca,dvv,drv⟩:=hC.inv
 obtain⟨va,rfl,hva⟩:=Dm.row_inv dvv
 have st1:=zQ1 st n m
 have hr4:Room 4 _:=hr.mono (by decide)
 refine⟨_,zAe (zAq (i:=2) scn135.nd rfl (Or.inl rfl) (zAh (E:=E) Cn hr4 (by rfl) mn hw (zAa (pv 0) (zAa (zBi zBj (zAl (pv 1) rfl) zAp (fun _ _=>rfl)) zAd))))
  (zAe (zAq (i:=3) scn135.nd rfl (Or.inl rfl) (zAh (E:=E) Cn hr4 (by rfl) mn hw (zAa (pv 0) (zAa (zBi zBj (zAl (pv 1) rfl) zAp (fun _ _=>rfl)) zAd))))
  (zAf (zAi (zAh (E:=E0) Co (hr.mono (by decide)) (by rfl) mo zAm (zAa (zAh (E:=E0) Cf (hr.mono (by decide)) (by rfl) mf zAm (zAa (pv 3) (zAa (pv 2) zAd))) zAd))))),?_⟩
 refine (zq rfl (zq rfl (zf (sA _ _ hca) BC.cl BC.n2 (zSs _ _ _) ⟨va,_,_,(zq rfl ⟨rfl,SqL.of (sA _ _ hva),zAw (j:=0) rfl,t,dx,vp,_,vf,vo,Ar,st.family,n,rfl,ht,sA,hin.f,okS.fm,?_⟩)⟩)))
 cases hc:zCb st.family n with
 | none=>
  rw[hc]at st1
  exact fun H1 e1=>hE CY (-2) H1 hRef e1 st1
 | some r=>
  rw[hc]at st1
  dsimp only at st1
  intro H1 v1 e1 r1
  have s1:=sA.trans e1
  refine (zq rfl (zq rfl (zf (s1 _ _ hca) BC.cl BC.n2 (zSs _ _ _) ⟨va,_,_,(zq rfl ⟨rfl,SqL.of (s1 _ _ hva),zAw (j:=1) rfl,t,dx,vp,_,vf,vo,Ar,st.family,m,rfl,e1 _ _ ht,s1,hin.f,okS.fm,?_⟩)⟩)))
  cases hc2:zCb st.family m with
  | none=>
   rw[hc2]at st1
   exact fun H2 e2=>hE CY (-2) H2 hRef (e1.trans e2) st1
  | some q=>
   rw[hc2]at st1
   intro H2 v2 e2 r2
   refine (zq rfl (zq rfl ⟨v2,v1,q,r,rfl,r2.same (zBs s1 e2),(r1.same (zBs sA e1)).same e2,fun H3 e3=>?_⟩))
   have e13:=(e1.trans e2).trans e3
   exact (zq rfl (fun H4 p e4 hp h4=>zEm hT okS hQ st1 (e13.trans e4) (e13.free hp) h4))
noncomputable abbrev zXv:Stmt:=top 137
theorem scn137:zAg ["told","call","relation","program"] ["told","call"] (zAc zXv):= fsc
theorem zSv{st:Vametc.State}{n:Int}{p:zBc}(ok:zQy st)(h:zGl st.others n=some p):zBy p:=by
 unfold zGl at h
 split at h
 ·cases h
 ·exact ok.op p (List.mem_of_getElem? h)
theorem zXw{f fo fn fq fi:Addr}(F:DefAt K mg "answer_by" zXv f)(B:zB3 K mg CO fO0)(BC:zCw K mg CC fC0)(BT:zB6 K mg CT fT fL fR fF fV fH fA)(hRef:(CY,-2)∈Ref)(hRef3:(CP,-3)∈Ref)(hRef7:(CX,-7)∈Ref)(mo:mg "one_if" =some (.ref fo))(Co:L2.Callee P w K mg base 1 fo ["is_so"] yAj)
  (mn:mg "relation_numbered" =some (.ref fn)) (Cn:L2.Callee P w K mg base 4 fn ["told","number"] (zOx CF CO CR CY)) (mq:mg "other_numbered" =some (.ref fq)) (Cq:L2.Callee P w K mg base 1 fq ["told","number"] (zW4 CO CP))
  (CI:L2.Callee P w K mg base 4 fT ["self","program","inputs"] (zVb P w CT)) (CH:L2.Callee P w K mg base 6 fH ["self","relation"] (zTg P w CR CT)) (mi:mg "inputs_tried" =some (.ref fi)) (Ci:L2.Callee P w K mg base 3 fi ["told"] (zVe CB CO CX)):
  L2.Callee P w K mg base 10 f ["told","call"] (spA CB CF CO CC Ref 10):=by
 refine F.calleeE scn137 zC4 (fun _ _ _ _ _ _=>b2 fun _ _=>rfl) (fun cdv A outer s H vs Q E hr hw h=>?_)
 obtain⟨t,v,Ar,st,c,k,rfl,hT,hC,okS,okr,hn,hk,hE,hQ⟩:=h
 obtain⟨n,m,rfl,rfl⟩:=zXi hk hn
 obtain⟨sA,hAt,dx,vp,ba,vf,vo,ht,hin⟩:=id hT
 obtain⟨ca,cdx,vv,rv,rfl,hca,dvv,drv⟩:=hC.inv
 obtain⟨va,rfl,hva⟩:=Dm.row_inv dvv
 have st1:=zU4 st n m
 unfold Vametc.onInputs Vametc.GONE at st1
 have hr4:Room 4 _:=hr.mono (by decide)
 have hr3:Room 3 _:=hr.mono (by decide)
 have hr5:Room 5 _:=hr.mono (by decide)
 have hr6:Room 6 _:=hr.mono (by decide)
 have hr1:Room 1 _:=hr.mono (by decide)
 refine⟨_,zAe (zAq (i:=2) scn137.nd rfl (Or.inl rfl) (zAh (E:=E) Cn hr4 (by rfl) mn hw (zAa (pv 0) (zAa (zBi zBj (zAl (pv 1) rfl) zAp (fun _ _=>rfl)) zAd))))
  (zAe (zAq (i:=3) scn137.nd rfl (Or.inl rfl) (zAh (E:=E) Cq hr1 (by rfl) mq hw (zAa (pv 0) (zAa (zBi zBj (zAl (pv 1) rfl) zAp (fun _ _=>rfl)) zAd))))
  (zAf (zAi (zAh (E:=E0) Co hr1 (by rfl) mo zAm (zAa (zBq (E:=E0) (zB0 (E:=E0) BT.make CI hr5 (by rfl) BT.gl zAm (zAa (pv 3) (zAa (zAh (E:=E) Ci hr3 (by rfl) mi hw (zAa (pv 0) zAd)) zAd))) BT.cl BT.mH CH hr6 zAm (zAa (pv 2) zAd)) zAd))))),?_⟩
 refine (zq rfl (zq rfl (zf (sA _ _ hca) BC.cl BC.n2 (zSs _ _ _) ⟨va,_,_,(zq rfl ⟨rfl,SqL.of (sA _ _ hva),zAw (j:=1) rfl,t,dx,vp,_,vf,vo,Ar,st.family,m,rfl,ht,sA,hin.f,okS.fm,?_⟩)⟩)))
 cases hc:zCb st.family m with
 | none=>
  rw[hc]at st1
  exact fun H1 e1=>hE CY (-2) H1 hRef e1 st1
 | some r=>
  rw[hc]at st1
  dsimp only at st1
  intro H1 v1 e1 r1
  have s1:=sA.trans e1
  have ht1:=e1 _ _ ht
  refine (zq rfl (zq rfl (zf (s1 _ _ hca) BC.cl BC.n2 (zSs _ _ _) ⟨va,_,_,(zq rfl ⟨rfl,SqL.of (s1 _ _ hva),zAw (j:=0) rfl,t,dx,vp,_,vf,vo,st.others,n,rfl,ht1,hin.o.same s1,?_⟩)⟩)))
  cases hc2:zGl st.others n with
  | none=>
   rw[hc2]at st1
   exact hE CP (-3) H1 hRef3 e1 st1
  | some o=>
   rw[hc2]at st1
   dsimp only at st1
   intro v2 d2
   have oko:=zSv okS hc2
   refine (zq rfl (zq rfl ⟨t,dx,_,_,_,_,st.bound,rfl,ht1,(hin.same s1).b,okS.bd,okS.bt,fun e=>?_,fun e H2 v3 e2 d3=>?_⟩))
   ·rw[if_pos e]at st1
    exact fun H2 e2=>hE CX (-7) H2 hRef7 (e1.trans e2) st1
   rw[if_neg e]at st1
   rw[zD7 okS.bd okS.bt]at e
   obtain⟨okx,_⟩:=zDu okS.bd (by omega)
   intro x xdx hx hxdx hne
   refine ⟨x,xdx,v2,v3,H2,o,(zq rfl ⟨zAb,zA3 hx hxdx,hx,d2.same e2,d3.same (zBs zBv e2),oko,okx,fun H3 la' ra' ca' kp nl nr nc T3=>⟨rfl,?_⟩⟩)⟩
   have sm:=zA3 (o:= .ins CT xdx []) hx hxdx
   have s3:Same H2 H3:=kp.inA sm hx
   have ol:=sm.free nl
   have or:=sm.free nr
   have oc:=sm.free nc
   obtain⟨dx3,vp3,vi3,vo3,hx3,_⟩:=id T3.ob
   refine ⟨x,dx3,(zq rfl ⟨hx3,zJ6 _ _ _ _ _ _ (by decide +kernel) (by decide +kernel) (by decide +kernel) (by decide +kernel) (by decide +kernel) (by decide +kernel),(zq rfl ⟨[la',ra',ca'],x,la',ra',ca',v1,_,_,0,r,rfl,T3,((r1.same (zBs sA e1)).same e2).same (zLw s3 (in3 ol or oc)),zKg okS.fm hc,oko,okx,(by omega),fun H4 k4 T4=>?_⟩)⟩)⟩
   have s24:Same H2 H4:=k4.inA s3 ol or oc
   have s14:=(e1.trans e2).trans s24
   exact (zq rfl (fun H5 p e5 hp h5=>zEm hT okS hQ st1 (s14.trans e5) (s14.free hp) h5))
end
end Rf
namespace L2
open PySem PySem.Spec PyProof.Rows
section
variable {X:Cx} {E:XK}
theorem zQ2{i:Nat}{y:Str}{py:Pos}{elt tg iter:Expr}{ifs:List Expr}{scope:Scope}{own:List (Str×Nat)}{pos spos:Pos}{wi:TI}{g:TG}{tt:TT}{te:TE}(hw:Wants X E)(hst:X.stack=X.env::X.outer)(hf:X.env.frame=some X.env.locals)(hc:X.calm=true)(hN:X.N.Nodup)(hy:X.N[i]? =some y)(hyl:X.env.scope.names.lookup y=some .local)
  (hsw:swapsWith (.ListComp elt [⟨tg,iter,ifs,0⟩] scope pos) (some (.Name y py)) spos.line X.env=pure true) (hi:PI X tg iter wi) (ok:zCf X.N X.env.scope scope own)
  (hg:∀(s:Shared) (H:Hp) (C:Addr) (cl:List (Str×Addr)) (fp:List Addr),PG (X.blk s H scope (compEnvC scope cl C X.env) fp) tg g) (ht:∀(s:Shared) (H:Hp) (C:Addr) (cl:List (Str×Addr)) (fp:List Addr),PTs (X.blk s H scope (compEnvC scope cl C X.env) fp) ifs tt)
  (he:∀(s:Shared) (H:Hp) (C:Addr) (cl:List (Str×Addr)) (fp:List Addr) (pn:List (Addr×Obj)) (xe:Value->Shared->Prop),Wants ((X.blk s H scope (compEnvC scope cl C X.env) fp).tried pn xe) E->PE ((X.blk s H scope (compEnvC scope cl C X.env) fp).tried pn xe) elt te)
  (hs:∀x,foldedSetIterable iter X.env x=pure x:=by intro _;rfl):
  PS X (.Assign [.Name y py] (.ListComp elt [⟨tg,iter,ifs,0⟩] scope pos) spos) (zYj (tLc wi g tt te (own.map (·.2))) (zEx i)):=by
 intro pins s σ H D I h
 rw[exec_Assign_Name_used _ _ _ _ hsw]
 refine wpAny_bind (wpAny_standAt (wpAny_bind ?_))
 show wpAny _ X.A (do let _ <-comprehension (.ListComp elt [⟨tg,iter,ifs,0⟩] scope pos) scope X.env (firstIterPos [⟨tg,iter,ifs,0⟩] pos) (newList []) false (eval iter X.env) (some (assign (.Name y py) X.env))) _ _ s
 have h:tLc wi g tt te (own.map (·.2)) σ H (fun x H1=>zEx i x σ H1 D.nx):=h
 refine wpAny_bind (thn (zNk (Qf:=fun _ s'=>SP X pins D .next s') hw hst hf hc hN I hi ok hg ht he hs h fun L C s' m H' I' q hn f=>?_) fun _ s' hq=>wpAny_pure (wpAny_pure hq))
 show wpAny _ _ (assign (.Name y py) X.env (.ref L)) _ _ _
 refine wpAny_assign_Name (zHm (v:=V.ref L) I' hN hy (.inl hyl) rfl (fun s2 I2 ⟨a,sb,ha⟩=>?_) (.inr hyl))
 obtain⟨f0,f1,f2,f3,f4,f5⟩:=f
 have haC:C≠a:=by
  rcases ha with z | z
  ·rw[z];exact f1
  ·exact fun e=>f4 y a z e.symm
 refine⟨m,hn.sameBut sb haC,fun h3 sb3=>?_⟩
 exact⟨_,H',I2.turned (t':=s2.toks) (fun b o hb e=>(sb3.2 b hb).trans e) f0 f1 f3 f4 f5,q⟩
end
theorem zSw{K:PySem.W.Frag}{a:Addr}{xs:List V}{g:TG}{tb:TS}{D:zMe}{σ:St}{H:Hp}(Pv:Nat->St->Hp->Prop)(h0:Pv 0 σ H)(hl:∀i σ H,i<=xs.length->Pv i σ H->SqL K H a xs)
  (hs:∀i x T σ H,xs[i]? =some x->Pv i σ H->H T=none->g (.ref T) σ (upd H T (.tup [.int (i:Nat),x])) fun σ2 H2=>tb {D with nx:=Pv (i+1),ct:=Pv (i+1),bk:=D.nx} σ2 H2) (hd:∀σ H,Pv xs.length σ H->D.nx σ H):
  ∃W:Nat->Nat->St->Hp->Prop,(∃m,W 0 m σ H)/\∀i m σ H,W i m σ H->
   ((Ite K a).stop i H/\D.nx σ H)\/((Ite K a).go i H/\∃N:St->Hp->Prop,(∀σ' H',N σ' H'->∃m',m' < m/\W (i+1) m' σ' H')/\∀x H',(Ite K a).yld i H x H'->g x σ H' fun σ2 H2=>tb {D with nx:=N,ct:=N,bk:=D.nx} σ2 H2):=by
 refine⟨fun i m σ H=>m=xs.length - i/\i<=xs.length/\Pv i σ H,⟨xs.length,by simp,Nat.zero_le _,h0⟩,?_⟩
 rintro i m σ H ⟨rfl,hi,p⟩
 have q:=hl i σ H hi p
 by_cases hlt:i < xs.length
 ·refine .inr ⟨⟨xs,xs[i],q,by simp[hlt]⟩,Pv (i+1),fun σ' H' p'=>⟨xs.length - (i+1),by omega,rfl,hlt,p'⟩,fun x H' y=>?_⟩
  obtain⟨T,x1,e1,e2,e3,z1⟩:=y
  subst e1 e3
  exact hs i x1 T σ H (z1 xs q) p e2
 ·have e:i=xs.length:=by omega
  subst e
  exact .inl ⟨⟨xs,q,Nat.le_refl _⟩,hd σ H p⟩
end L2
namespace Rf
open PySem PySem.Spec PyProof.Rows L2
open PySem.W (WData)
open VametBase (within)
section
variable {α β:Type} (f:α->Option β)
theorem zIc:([]:List α).mapM f=some []:=rfl
theorem zC6(a:α)(l:List α):(a::l).mapM f=(f a).bind fun b=>(l.mapM f).bind fun bs=>some (b::bs):=by
 rw[List.mapM_cons];rfl
theorem zL2(x:α):∀l:List α,(l++ [x]).mapM f=(l.mapM f).bind fun bs=>(f x).bind fun b=>some (bs++ [b])
 | []=>by
  rw[List.nil_append,zC6,zIc]
  cases f x <;> rfl
 | a::l=>by
  rw[List.cons_append,zC6,zC6,zL2 x l]
  cases f a with
  | none=>rfl
  | some b=>
   cases l.mapM f with
   | none=>rfl
   | some bs=>cases f x <;> rfl
theorem zL3{x:α}(h:f x=none):∀{l:List α},x∈l->l.mapM f=none
 | a::l,hx=>by
  rw[zC6]
  rcases List.mem_cons.mp hx with rfl | hx
  ·rw[h];rfl
  ·rw[zL3 h hx]
   cases f a <;> rfl
theorem zKh:∀{l:List α} {bs:List β},l.mapM f=some bs->bs.length=l.length
 | [],bs,h=>by
  rw[zIc]at h
  cases h;rfl
 | a::l,bs,h=>by
  rw[zC6]at h
  cases h1:f a with
  | none=>rw[h1]at h;cases h
  | some b=>
   cases h2:l.mapM f with
   | none=>rw[h1,h2]at h;cases h
   | some cs=>
    rw[h1,h2]at h
    cases h
    rw[List.length_cons,List.length_cons,zKh h2]
theorem zN8:∀{l:List α} {bs:List β},l.mapM f=some bs->∀b∈bs,∃a,f a=some b
 | [],bs,h,b,hb=>by
  rw[zIc]at h
  cases h
  cases hb
 | a::l,bs,h,b,hb=>by
  rw[zC6]at h
  cases h1:f a with
  | none=>rw[h1]at h;cases h
  | some c=>
   cases h2:l.mapM f with
   | none=>rw[h1,h2]at h;cases h
   | some cs=>
    rw[h1,h2]at h
    cases h
    rcases List.mem_cons.mp hb with rfl | hb
    ·exact⟨a,h1⟩
    ·exact zN8 h2 b hb
end
theorem zL4(st:Vametc.State)(l:List Int)(k:Int):Vametc.step st (.follows l k)=match l.mapM (zCb st.family),zCb st.family k with
  | some rs,some q=>Vametc.onInputs st fun xs=>(match Vametc.parts st.others xs rs q with
   | none=>[1]
   | some p=>[0,VametBase.int p])
  | _,_=>(st,[-2]):=rfl
noncomputable def RelsP(CR:Addr)(A:Hp):List V->List VametBase.Relation->Prop:=Paired fun u r=>RelAt CR A u r
theorem RelsP.at{CR:Addr}{A:Hp}{vs:List V}{rs:List VametBase.Relation}(h:RelsP CR A vs rs):vs.length=rs.length/\∀(i:Nat) u r,vs[i]? =some u->rs[i]? =some r->RelAt CR A u r:=by
 unfold RelsP at h
 induction h with
 | nil=>exact⟨rfl,fun i u r e=>by simp at e⟩
 | @cons u r vs rs q t ih=>
  refine⟨by rw[List.length_cons,List.length_cons,ih.1],fun i u' r' h1 h2=>?_⟩
  cases i with
  | zero=>
   simp at h1 h2
   subst h1 h2
   exact q
  | succ i=>exact ih.2 i u' r' (by simpa using h1) (by simpa using h2)
section
variable {P:Program} {w:World} {K:PySem.W.Frag} {mg:Str->Option Value} {base:Heap} {CB CF CO CC CN CX CR CY CP CT fB0 fF0 fO0 fC0 fR0 fT fL fR fF fV fH fA:Addr} {Ref:List (Addr×Int)}
noncomputable abbrev zU5:Stmt:=top 136
theorem scn136:zAg ["told","call","asked","number","given","inputs","program","trial"] ["told","call"] (zAc zU5):= fsc
theorem zXx{f fn fi:Addr}(F:DefAt K mg "answer_follows" zU5 f)(Bl:Blt mg)(B:zB3 K mg CO fO0)(BC:zCw K mg CC fC0)(BT:zB6 K mg CT fT fL fR fF fV fH fA)(hRef:(CY,-2)∈Ref)(hRef7:(CX,-7)∈Ref)
  (mn:mg "relation_numbered" =some (.ref fn)) (Cn:L2.Callee P w K mg base 4 fn ["told","number"] (zOx CF CO CR CY))
  (CI:L2.Callee P w K mg base 4 fT ["self","program","inputs"] (zVb P w CT)) (CH:L2.Callee P w K mg base 6 fH ["self","relation"] (zTg P w CR CT)) (CA:L2.Callee P w K mg base 7 fA ["self","relations"] (yA7 P w CR CT)) (mi:mg "inputs_tried" =some (.ref fi)) (Ci:L2.Callee P w K mg base 3 fi ["told"] (zVe CB CO CX)):
  L2.Callee P w K mg base 10 f ["told","call"] (spA CB CF CO CC Ref 9):=by
 refine F.calleeE scn136 zC4 (fun _ _ _ _ _ _=>b2 fun _ _=>rfl) (fun cdv A outer s H vs Q E hr hw h=>?_)
 obtain⟨t,v,Ar,st,c,k,rfl,hT,hC,okS,okr,hn,hk,hE,hQ⟩:=h
 obtain⟨n,l,rfl,rfl⟩:=yAn hk hn
 obtain⟨sA,hAt,dx,vp,ba,vf,vo,ht,hin⟩:=id hT
 obtain⟨ca,cdx,vv,rv,rfl,hca,dvv,drv⟩:=hC.inv
 obtain⟨va,rfl,hva⟩:=Dm.row_inv dvv
 obtain⟨ra,rx,rfl,hra,hrx⟩:=Dm.list_inv drv
 obtain⟨lv,hlv,dlv⟩:=hrx.at (i:=0) (d:=zCl l) rfl
 obtain⟨la,rfl,hla⟩:=Dm.row_inv dlv
 have hll:=okr l (by simp)
 have st1:=zL4 st l n
 unfold Vametc.onInputs Vametc.GONE at st1
 have hr4:Room 4 _:=hr.mono (by decide)
 have hr3:Room 3 _:=hr.mono (by decide)
 have hr5:Room 5 _:=hr.mono (by decide)
 have hr6:Room 6 _:=hr.mono (by decide)
 have hr7:Room 7 _:=hr.mono (by decide)
 refine⟨_,zAe (zAq (i:=2) scn136.nd rfl (Or.inl rfl) (zAh (E:=E) Cn hr4 (by rfl) mn hw (zAa (pv 0) (zAa (zBi zBj (zAl (pv 1) rfl) zAp (fun _ _=>rfl)) zAd))))
  (zAe (zQ2 (E:=E) (i:=4) (own:=[("number",3)]) (te:=zI5 (zOx CF CO CR CY) E (zEb (zFq 0) (zEb (zFq 3) zMk))) hw rfl rfl rfl scn136.nd rfl rfl (zHy rfl rfl (by rfl) (by decide +kernel)) (zBo (zBi zBj (zAl (pv 1) rfl) zAp (fun _ _=>rfl))) (show zCf ["told","call","asked","number","given","inputs","program","trial"] (zAc zU5) _ [("number",3)]from bok)
    (fun s H C cl fp=>zAv (i:=3) scn136.nd rfl (Or.inl rfl)) (fun s H C cl fp=>zB2) (fun s H C cl fp pn xe hw'=>zAh (E:=E) Cn hr4 (by rfl) mn hw' (zAa (pv 0) (zAa (pv 3) zAd))))
  (zAe (zAq (i:=5) scn136.nd rfl (Or.inl rfl) (zAh (E:=E) Ci hr3 (by rfl) mi hw (zAa (pv 0) zAd)))
  (PSs.nox (zAe (zC9 PassesOwn.never rfl (zUe (by rfl) Bl.enumerate (zAa (zAl (pv 0) rfl) zAd)) (zKw (n:=2) rfl (zCn (zAv (i:=3) scn136.nd rfl (Or.inl rfl)) (zCn (zAv (i:=6) scn136.nd rfl (Or.inl rfl)) zHq)))
    (zAe (zAq (i:=7) scn136.nd rfl (Or.inl rfl) (zB0 (E:=E0) BT.make CI hr5 (by rfl) BT.gl zAm (zAa (pv 6) (zAa (pv 5) zAd))))
    (zAf (zCk (zVj (zE3 (zBb (zBq (E:=E0) (pv 7) BT.cl BT.mH CH hr6 zAm (zAa (pv 2) zAd)) (fun _=>rfl))) (zTo (zBb (zBq (E:=E0) (pv 7) BT.cl BT.mA CA hr7 zAm (zAa (pv 4) zAd)) (fun _=>rfl)))).pt
     (zAf (zAi (zA4 (zAa zAp (zAa (pv 3) zAd))))) zA5))))
   (zAf (zAi (zA4 (zAa zAp zAd)))))))),?_⟩
 refine (zq rfl (zq rfl (zf (sA _ _ hca) BC.cl BC.n2 (zSs _ _ _) ⟨va,_,_,(zq rfl ⟨rfl,SqL.of (sA _ _ hva),zAw (j:=0) rfl,t,dx,vp,_,vf,vo,Ar,st.family,n,rfl,ht,sA,hin.f,okS.fm,?_⟩)⟩)))
 cases hc:zCb st.family n with
 | none=>
  rw[hc]at st1
  have st2:Vametc.step st (.follows l n)=(st,[-2]):=by
   rw[st1]
   cases l.mapM (zCb st.family) <;> rfl
  exact fun H1 e1=>hE CY (-2) H1 hRef e1 st2
 | some q=>
 rw[hc]at st1
 intro H1 v1 e1 r1
 have s1:=sA.trans e1
 have r1':RelAt CR H1 v1 q:=r1.same (zBs sA e1)
 have okq:=zKg okS.fm hc
 refine (zq rfl (zf (s1 _ _ hca) BC.cl BC.n3 (zTh _ _ _) ⟨ra,_,_,(zq rfl ⟨rfl,SqL.of (s1 _ _ hra),zAw (j:=0) hlv,la,rfl,⟨_,SqL.of (s1 _ _ hla)⟩,fun D hD=>?_⟩)⟩))
 have oD:H D=none:=e1.free hD
 have aD:Ar D=none:=by
  cases z:Ar D with
  | none=>rfl
  | some u=>rw[sA _ _ z]at oD;cases oD
 have inD:∀{Pr:Addr->Prop},Pr D->∀b∈[D],Pr b:=fun h b hb=>by rw[List.mem_singleton.mp hb];exact h
 refine zD0 (xs:=l.map V.int) (fun j H'=>Same H1 H'/\∃vs rs,H' D=some (.lst vs)/\(l.take j).mapM (zCb st.family)=some rs/\RelsP CR (woS [D] H') vs rs) ⟨Same.upd hD,[],[],zAb,rfl,.nil⟩ (fun j H' _ h=>SqL.of (h.1 _ _ (s1 _ _ hla))) (fun j x H' hx h=>?_) (fun H2 h=>?_)
 ·obtain⟨e2,gs,rs,hq,hm,hP⟩:=h
  obtain⟨m,hmj,rfl⟩:=zCs hx
  have s2:=s1.trans e2
  refine⟨rfl,?_⟩
  simp only [zNb,if_true]
  refine (zq rfl (zq rfl ⟨t,dx,vp,_,vf,vo,Ar,st.family,m,rfl,e2 _ _ (e1 _ _ ht),s2,hin.f,okS.fm,?_⟩))
  cases hcm:zCb st.family m with
  | none=>
   have st2:Vametc.step st (.follows l n)=(st,[-2]):=by
    rw[st1,zL3 (zCb st.family) hcm (List.mem_of_getElem? hmj)]
   exact fun H3 e3=>hE CY (-2) H3 hRef ((e1.trans e2).trans e3) st2
  | some rm=>
   intro H3 v3 e3 r3
   have hq3:=e3 _ _ hq
   have pl:=hP.at.1
   have ml:=zKh (zCb st.family) hm
   rw[List.length_take]at ml
   refine⟨gs,hq3,zCg (by omega),(e2.trans e3).updR hD,gs++ [v3],rs++ [rm],zAb,?_,?_⟩
   ·rw[zA2 hmj,zL2,hm,hcm]
    rfl
   ·have w3:∀(o:HO),Same (woS [D] H3) (woS [D] (upd H3 D o)):=fun o=>zJ7 (by simp)
    have r3':=(r3.same (zJ5 s2 e3 (inD aD) (inD (by rw[hq];rfl)))).same (w3 (.lst (gs++ [v3])))
    exact Paired.snoc (Paired.mapP hP fun _ _ z=>(z.same (Same.woS e3)).same (w3 _)) r3'
 obtain⟨e2,gs,rs,hq,hm,hP⟩:=h
 rw[List.length_map,List.take_length]at hm
 rw[hm]at st1
 dsimp only at st1
 have hGs:RelsAt CR H2 (.ref D) rs:=⟨D,gs,rfl,hq,hP.at.1,fun i u r a b=>(hP.at.2 i u r a b).same woS_same⟩
 have rl:=zKh (zCb st.family) hm
 have okrs:∀r∈rs,zL0 r:=fun r hr0=>by
  obtain⟨z,hz⟩:=zN8 (zCb st.family) hm r hr0
  exact zKg okS.fm hz
 have e12:=e1.trans e2
 have ht2:=e12 _ _ ht
 have hin2:=hin.same (sA.trans e12)
 refine (zq rfl ⟨t,dx,_,_,_,_,st.bound,rfl,ht2,hin2.b,okS.bd,okS.bt,fun e=>?_,fun e H3 v3 e3 d3=>?_⟩)
 ·rw[if_pos e]at st1
  exact fun H3 e3=>hE CX (-7) H3 hRef7 (e12.trans e3) st1
 rw[if_neg e]at st1
 rw[zD7 okS.bd okS.bt]at e
 obtain⟨okx,_⟩:=zDu okS.bd (by omega)
 generalize hxs:Vametc.inputsOf st.bound=xs at okx d3 st1
 have e13:=e12.trans e3
 have ht3:=e13 _ _ ht
 have hin3:=hin2.same e3
 obtain⟨oa,ox,rfl,hoa,hox⟩:=Dm.list_inv hin3.o
 have d3':=d3.same (zBs zBv e3)
 have hGs3:=hGs.same e3
 have r13:=(r1'.same e2).same e3
 have hol:ox.length=st.others.length:=by rw[hox.length,List.length_map]
 refine⟨_,rfl,t,CO,dx,_,_,rfl,ht3,B.cl,B.n4,zWy _ _ _ _,oa,_,rfl,SqL.of hoa,zSw (K:=K) (a:=oa) (xs:=ox) (fun i σ H'=>∃w3 w6 w7,σ= [some (.ref t),some (.ref ca),some v1,w3,some (.ref D),some v3,w6,w7]/\Same H3 H'/\∀j o,j < i->st.others[j]? =some o->(rs.all (Vametc.held o xs) &&!Vametc.held o xs q)=false)
  ⟨_,_,(zq rfl ⟨Same.refl H3,fun j o hj=>absurd hj (Nat.not_lt_zero _)⟩)⟩ (fun i σ H' _ ⟨_,_,_,_,e,_⟩=>SqL.of (e _ _ hoa)) ?_ ?_⟩
 ·rintro i y T σ H' hi ⟨w3,w6,w7,rfl,e4,hno⟩ hTn
  obtain⟨d,hdi,dy⟩:=hox.get hi
  obtain⟨o,ho,rfl⟩:=zCs hdi
  have oko:zBy o:=okS.op o (List.mem_of_getElem? ho)
  have e5:Same H3 (upd H' T (.tup [.int (i:Nat),y])):=e4.trans (Same.upd hTn)
  refine ⟨T,(zq rfl ⟨SqT.of zAb,rfl,_,(zq rfl ⟨_,(zq rfl ⟨rfl,?_⟩)⟩)⟩)⟩
  generalize upd H' T (.tup [.int (i:Nat),y])=H5 at e5
  refine (zq rfl (zq rfl (fun x xdx hx hxdx hne=>⟨x,xdx,y,v3,H5,o,xs,rfl,zAb,zA3 hx hxdx,hx,dy.same e5,d3'.same e5,oko,okx,fun H6 la' ra' ca' kp nl nr nc T6=>⟨rfl,?_⟩⟩)))
  have sm:=zA3 (o:= .ins CT xdx []) hx hxdx
  have s6:Same H5 H6:=kp.inA sm hx
  have ol:=sm.free nl
  have or:=sm.free nr
  have oc:=sm.free nc
  obtain⟨dx6,vp6,vi6,vo6,hx6,_⟩:=id T6.ob
  have wS:∀H',Same H5 H'->Same H5 (woS [la',ra',ca'] H'):=fun H' s=>zLw s (in3 ol or oc)
  refine (zq rfl ⟨x,dx6,(zq rfl ⟨hx6,zJ6 _ _ _ _ _ _ (by decide +kernel) (by decide +kernel) (by decide +kernel) (by decide +kernel) (by decide +kernel) (by decide +kernel),(zq rfl ⟨[la',ra',ca'],x,la',ra',ca',v1,o,xs,0,q,rfl,T6,(r13.same e5).same (wS _ s6),okq,oko,okx,(by omega),fun H7 k7 T7=>(zq rfl ?_)⟩)⟩)⟩)
  have s7:Same H5 H7:=k7.inA s6 ol or oc
  have next:∀H8,Same H5 H8->(rs.all (Vametc.held o xs) &&!Vametc.held o xs q)=false->∃w3 w6 w7:Option V,[some (V.ref t),some (.ref ca),some v1,some (.int (i:Nat)),some (.ref D),some v3,some y,some (.ref x)] = [some (.ref t),some (.ref ca),some v1,w3,some (.ref D),some v3,w6,w7]/\Same H3 H8/\∀j o,j < i+1->st.others[j]? =some o->(rs.all (Vametc.held o xs) &&!Vametc.held o xs q)=false:=fun H8 s8 hf=>by
   refine ⟨_,_,(zq rfl ⟨e5.trans s8,fun j o' hj ho'=>?_⟩)⟩
   by_cases z:j=i
   ·subst z
    rw[ho]at ho'
    cases ho'
    exact hf
   ·exact hno j o' (by omega) ho'
  cases hh:Vametc.held o xs q with
  | true=>
   refine zG3 (zG3 ?_)
   exact next H7 s7 (by rw[hh];simp)
  | false=>
   refine zE6 ?_
   obtain⟨dx7,vp7,vi7,vo7,hx7,_⟩:=id T7.ob
   refine (zq rfl ⟨x,dx7,(zq rfl ⟨hx7,zJ6 _ _ _ _ _ _ (by decide +kernel) (by decide +kernel) (by decide +kernel) (by decide +kernel) (by decide +kernel) (by decide +kernel),(zq rfl ⟨[la',ra',ca'],x,la',ra',ca',_,o,xs,3,rs,rfl,T7,(hGs3.same e5).same (wS _ s7),okrs,oko,okx,(by omega),fun H8 k8 T8=>(zq rfl ?_)⟩)⟩)⟩)
   have s8:Same H5 H8:=k8.inA s7 ol or oc
   refine zD2 (fun z=>?_) fun z=>?_
   ·have two:(2:Nat)<=sizeLine:=by decide
    refine (zq rfl ⟨two,fun p hp=>?_⟩)
    have s9:Same H (upd H8 p (.lst [.int 0,.int (i:Nat)])):=((e13.trans e5).trans s8).trans (Same.upd hp)
    have pf:Vametc.parts st.others xs rs q=some i:=by
     unfold Vametc.parts
     rw[List.findIdx?_eq_some_iff_getElem]
     refine⟨(List.getElem?_eq_some_iff.mp ho).1,?_,fun j hj=>?_⟩
     ·rw[(List.getElem?_eq_some_iff.mp ho).2,z,hh];rfl
     ·rw[hno j _ hj (List.getElem?_eq_getElem _)];decide
    rw[pf]at st1
    exact zEm hT okS hQ st1 s9 (((e13.trans e5).trans s8).free hp) zAb
   ·rw[Bool.not_eq_true]at z
    exact next H8 s8 (by rw[z];rfl)
 ·rintro σ H' ⟨w3,w6,w7,rfl,e4,hno⟩
  have one:(1:Nat)<=sizeLine:=by decide
  refine⟨one,fun p hp=>?_⟩
  have pf:Vametc.parts st.others xs rs q=none:=by
   unfold Vametc.parts
   rw[List.findIdx?_eq_none_iff]
   intro o ho
   obtain⟨j,hj,ej⟩:=List.getElem_of_mem ho
   exact hno j o (by rw[hol];exact hj) (by rw[List.getElem?_eq_getElem hj,ej])
  rw[pf]at st1
  exact zEm hT okS hQ st1 ((e13.trans e4).trans (Same.upd hp)) ((e13.trans e4).free hp) zAb
end
open VametBase (within)
noncomputable def zId(g:zH6)(xs:List zC0)(o:zBc)(n:Nat):Bool:=((Vametc.candidates g)[n]?).any (Vametc.held o xs)
theorem zQ3{A H H':Hp}:Same (mix A0 H H') (mix A H H'):=fun b o e=>by
 cases q:H b with
 | some u=>rw[zA8 q]at e;cases e
 | none=>rw[zA7 q]at e ⊢;exact e
theorem zN9{c:List VametBase.Relation}{p:VametBase.Relation->Bool}:∀{l:List Nat},(∀n∈l,n < c.length)->(l.filterMap fun n=>c[n]?).map p=l.map fun n=>(c[n]?).any p
 | [],_=>rfl
 | n::l,h=>by
  have hn:=List.getElem?_eq_getElem (h n List.mem_cons_self)
  rw[List.filterMap_cons,hn,List.map_cons,List.map_cons,zN9 (l:=l) fun m hm=>h m (List.mem_cons_of_mem _ hm),hn]
  rfl
theorem zO1(st:Vametc.State):Vametc.step st .least=if 150 < VametBase.inputCount st.bound then(st,[-7])else(if 10 < (Vametc.strongFound st.program (Vametc.inputsOf st.bound) st.family).length then(st,[-6])else
  (st,VametBase.listed ((Vametc.leastBy (Vametc.heldTable st.others (Vametc.inputsOf st.bound) ((Vametc.strongFound st.program (Vametc.inputsOf st.bound) st.family).filterMap fun k=>(Vametc.candidates st.family)[k]?)) (Vametc.strongFound st.program (Vametc.inputsOf st.bound) st.family).length).filterMap fun i=>(Vametc.strongFound st.program (Vametc.inputsOf st.bound) st.family)[i]?))):=rfl
section
variable {P:Program} {w:World} {K:PySem.W.Frag} {mg:Str->Option Value} {base:Heap} {CB CF CO CC CN CX CR CY CP CZ CT fB0 fF0 fO0 fC0 fR0 fT fL fR fF fV fH fA:Addr} {Ref:List (Addr×Int)}
noncomputable abbrev zU6:Stmt:=top 138
theorem scn138:zAg ["told","numbers","program","trial","number"] ["told","numbers","program"] (zAc zU6):= fsc
noncomputable def yBs(CB CF CO:Addr):Sp:=fun vs H Q _=>∃(t dx:Addr) (vp:V) (ba:Addr) (vf vo vn vq:V) (st:Vametc.State) (l:List Nat) (o:zBc),vs= [.ref t,vn,vq]/\H t=some (.ins CO dx (oF vp (.ref ba) vf vo))/\ToldIn CB CF H vp ba vf vo st/\zQy st/\
 Dm H vn (zFj l)/\(∀k∈l,k < (Vametc.candidates st.family).length)/\l.length<=1000/\Dm H vq (zBt o)/\zBy o/\¬150 < VametBase.inputCount st.bound/\
 ∀H' v,Same H H'->Dm (mix A0 H H') v (zFj (zBp l (zId st.family (Vametc.inputsOf st.bound) o)))->Q v H'
noncomputable def tMs(P:Program)(w:World)(K:PySem.W.Frag)(CF CR CT:Addr):TT:=zYe fun σ H Q=>zNr CT "holds" (zTg P w CR CT) E0 (zFq 3) (zEb (zI5 (zUu CF CR) E0 (zEb (zX4 K (zFq 0) "family") (zEb (zFq 4) zMk))) zMk) σ H fun x H'=>∃k,zRi K x H' k/\Q k H'
theorem zXy{f fO fi:Addr}(F:DefAt K mg "missed_of" zU6 f)(B:zB3 K mg CO fO0)(BT:zB6 K mg CT fT fL fR fF fV fH fA)(CI:L2.Callee P w K mg base 4 fT ["self","program","inputs"] (zVb P w CT))(CH:L2.Callee P w K mg base 6 fH ["self","relation"] (zTg P w CR CT))
  (mO:mg "relation_of" =some (.ref fO)) (CO':L2.Callee P w K mg base 3 fO ["family","number"] (zUu CF CR)) (mi:mg "inputs_tried" =some (.ref fi)) (Ci:L2.Callee P w K mg base 3 fi ["told"] (zVe CB CO CX)):L2.Callee P w K mg base 7 f ["told","numbers","program"] (yBs CB CF CO):=by
 refine F.callee0 scn138 (fun vs H Q E h=>?_) (fun _ _ _ _ _ _=>b3 fun _ _ _=>rfl) (fun cdv A outer s H vs Q E hr h=>?_)
 ·obtain⟨_,_,_,_,_,_,_,_,_,_,_,rfl,_⟩:=h
  rfl
 ·obtain⟨t,dx,vp,ba,vf,vo,vn,vq,st,l,o,rfl,ht,hin,okS,dn,hlk,hll,dq,oko,hcnt,k⟩:=h
  obtain⟨na,rfl,hna⟩:=Dm.row_inv dn
  have hr3:Room 3 _:=hr.mono (by decide)
  refine⟨_,zAe (zAq (i:=3) scn138.nd rfl (Or.inr rfl) (zB0 (E:=E0) BT.make CI (hr.mono (by decide)) (by rfl) BT.gl zAm (zAa (pv 2) (zAa (zAh (E:=E0) Ci hr3 (by rfl) mi zAm (zAa (pv 0) zAd)) zAd))))
   (zAf (zAi (zEh (own:=[("number",4)]) (tt:=tMs P w K CF CR CT) rfl scn138.nd (zBo (pv 1)) (show zCf ["told","numbers","program","trial","number"] (zAc zU6) _ [("number",4)]from bok)
    (fun s H C cl fp=>zAv (i:=4) scn138.nd rfl (Or.inl rfl)) (fun s H C cl fp=>zGe (zE3 (zBb (zBq (C:=CT) (E:=E0) (pv 3) BT.cl BT.mH CH hr zAm (zAa (zAh (E:=E0) CO' hr3 (by rfl) mO zAm (zAa (zAl (pv 0) rfl) (zAa (pv 4) zAd))) zAd)) (fun _=>rfl)))) (fun s H C cl fp=>pv 4)))),?_⟩
  refine (zq rfl (zq rfl ⟨t,dx,_,_,_,_,st.bound,rfl,ht,hin.b,okS.bd,okS.bt,fun e=>absurd e hcnt,fun e H1 v1 e1 d1=>?_⟩))
  rw[zD7 okS.bd okS.bt]at e
  obtain⟨okx,_⟩:=zDu okS.bd (by omega)
  generalize hxs:Vametc.inputsOf st.bound=xs at okx d1 k
  intro x xdx hx hxdx hne
  refine⟨x,xdx,vq,v1,H1,o,xs,rfl,zAb,zA3 hx hxdx,hx,dq.same e1,d1.same (zBs zBv e1),oko,okx,fun H2 la ra ca kp nl nr nc T2=>⟨rfl,?_⟩⟩
  have sm:=zA3 (o:= .ins CT xdx []) hx hxdx
  have s2:Same H1 H2:=kp.inA sm hx
  have ol:H1 la=none:=sm.free nl
  have or:H1 ra=none:=sm.free nr
  have oc:H1 ca=none:=sm.free nc
  refine (zq rfl ⟨na,rfl,⟨_,SqL.of (s2 _ _ (e1 _ _ hna))⟩,fun D hD=>?_⟩)
  have oD:H1 D=none:=s2.free hD
  have nDl:D≠la:=fun z=>by have:=T2.th la T2.ml;rw[<-z,hD]at this;cases this
  have nDr:D≠ra:=fun z=>by have:=T2.th ra T2.mr;rw[<-z,hD]at this;cases this
  have nDc:D≠ca:=fun z=>by have:=T2.th ca T2.mc;rw[<-z,hD]at this;cases this
  refine zD0 (xs:=(zEu l).map V.int) (fun j H'=>Same H1 H'/\TrIn P w CT [D,la,ra,ca] H' x la ra ca o xs (3 * j)/\H' D=some (.lst ((zEu ((l.take j).filter fun n=>!zId st.family xs o n)).map V.int))) ⟨s2.trans (Same.upd hD),T2.more hD,zAb⟩ (fun j H' _ h=>SqL.of (h.1 _ _ (e1 _ _ hna))) (fun j y H' hy h=>?_) (fun H' h=>?_)
  ·obtain⟨e3,T,hq⟩:=h
   unfold zEu at hy
   rw[List.map_map]at hy
   obtain⟨n,hn,rfl⟩:=zCs hy
   have hjl:j < l.length:=(List.getElem?_eq_some_iff.mp hn).1
   obtain⟨r,hr1⟩:=zDh (hlk n (List.mem_of_getElem? hn))
   obtain⟨dx',vp',vi',vo',ht',_⟩:=id T.ob
   refine⟨rfl,?_⟩
   refine (zq rfl ⟨x,dx',(zq rfl ⟨ht',zJ6 _ _ _ _ _ _ (by decide +kernel) (by decide +kernel) (by decide +kernel) (by decide +kernel) (by decide +kernel) (by decide +kernel),(zq rfl (zf (e3 _ _ (e1 _ _ ht)) B.cl B.n3 (zVd _ _ _ _) (zq rfl ⟨H1,vf,st.family,n,r,rfl,e3,hin.f.same e1,okS.fm,hr1,fun H4 v4 e4 rl=>?_⟩)))⟩)⟩)
   have rl2:=rl.same (zJ5 e3 e4 (in4 oD ol or oc) T.th)
   refine⟨[D,la,ra,ca],x,la,ra,ca,v4,o,xs,3 * j,r,rfl,T.same e4,rl2,zJ8 okS.fm hr1,oko,okx,(by omega),fun H5 k5 T5=>(zq rfl ?_)⟩
   have e5:Same H1 H5:=k5.inA (e3.trans e4) ol or oc
   have hq5:=k5.kp D _ (e4 _ _ hq) nDl nDr nDc
   have eh:zId st.family xs o n=Vametc.held o xs r:=by unfold zId;rw[hr1];rfl
   rw[zBz hn,eh]
   refine zD2 (fun z=>?_) fun z=>?_
   ·rw[if_pos z]
    refine (zq rfl ⟨_,hq5,?_,e5.updR oD,(T5.chg (by simp) hq5).mono (by omega),?_⟩)
    ·rw[List.length_map,zEv]
     refine zCg (Nat.le_trans (List.length_filter_le _ _) ?_)
     rw[List.length_take];omega
    ·rw[zAb]
     unfold zEu
     rw[List.map_append,List.map_append]
     rfl
   ·rw[if_neg z,List.append_nil]
    exact⟨e5,T5.mono (by omega),hq5⟩
  ·obtain⟨e3,T,hq⟩:=h
   rw[List.length_map,zEv,List.take_length]at hq
   exact k H' _ (e1.trans e3) (Dm.row (zAs (e1.free oD) hq))
noncomputable abbrev zU7:Stmt:=top 139
theorem scn139:zAg ["told","call","strongest","program","missed_by_each"] ["told","call"] (zAc zU7):= fsc
theorem zXz{f fs fm fl fw:Addr}(F:DefAt K mg "answer_least" zU7 f)(Bl:Blt mg)(B:zB3 K mg CO fO0)(N:zCr K mg "TooManyStrongest" CZ)(c1:zDc mg "MOST_STRONGEST" 10)(hRef6:(CZ,-6)∈Ref)(hRef7:(CX,-7)∈Ref)
  (ms:mg "strongest_now" =some (.ref fs)) (Cs:L2.Callee P w K mg base 9 fs ["told"] (zOy CB CF CO CX Vametc.strongFound)) (mm:mg "missed_of" =some (.ref fm)) (Cm:L2.Callee P w K mg base 7 fm ["told","numbers","program"] (yBs CB CF CO))
  (ml:mg "least_set" =some (.ref fl)) (Cl:L2.Callee P w K mg base 3 fl ["numbers","missed_by_each"] yBp) (mw:mg "with_count" =some (.ref fw)) (Cw:L2.Callee P w K mg base 1 fw ["numbers"] zYd):
  L2.Callee P w K mg base 10 f ["told","call"] (spA CB CF CO CC Ref 11):=by
 obtain⟨t1,c1⟩:=c1
 refine F.calleeE scn139 zC4 (fun _ _ _ _ _ _=>b2 fun _ _=>rfl) (fun cdv A outer s H vs Q E hr hw h=>?_)
 obtain⟨t,v,Ar,st,c,k,rfl,hT,hC,okS,okr,hn,hk,hE,hQ⟩:=h
 obtain⟨rfl,rfl⟩:=zXj hk hn
 obtain⟨sA,hAt,dx,vp,ba,vf,vo,ht,hin⟩:=id hT
 have st1:=zO1 st
 have hr7:Room 7 _:=hr.mono (by decide)
 have hr3:Room 3 _:=hr.mono (by decide)
 have hr1:Room 1 _:=hr.mono (by decide)
 refine⟨_,zAe (zAq (i:=2) scn139.nd rfl (Or.inr rfl) (zAh (E:=E) Cs hr (by rfl) ms hw (zAa (pv 0) zAd)))
  (zAe (zCk (zA6 zF9 (zAn zAk (by rfl) Bl.len PySem.boot_len (zAa (pv 2) zAd)) (zAr (v:= .int 10) (by rfl) c1 ⟨t1,rfl⟩) (zA0 _)) (zAf (zDg hw rfl (by rfl) N.gl PySem.F.excBase_Exception N.ex)) zA5)
  (zAe (zG9 (i:=4) (own:=[("program",3)]) rfl scn139.nd rfl rfl (zHy rfl rfl (by rfl) (by decide +kernel)) (zBo (zAl (pv 0) rfl)) (show zCf ["told","call","strongest","program","missed_by_each"] (zAc zU7) _ [("program",3)]from bok)
    (fun s H C cl fp=>zAv (i:=3) scn139.nd rfl (Or.inl rfl)) (fun s H C cl fp=>zB2) (fun s H C cl fp=>zAh (E:=E0) Cm hr7 (by rfl) mm zAm (zAa (pv 0) (zAa (pv 2) (zAa (pv 3) zAd)))))
  (zAf (zAi (zAh (E:=E0) Cw hr1 (by rfl) mw zAm (zAa (zAh (E:=E0) Cl hr3 (by rfl) ml zAm (zAa (pv 2) (zAa (pv 4) zAd))) zAd)))))),?_⟩
 refine (zq rfl ⟨t,dx,vp,ba,vf,vo,st,rfl,ht,hin.same sA,okS,fun e=>?_,fun e H1 v1 e1 d1=>?_⟩)
 ·rw[if_pos e]at st1
  exact fun H1 e1=>hE CX (-7) H1 hRef7 e1 st1
 rw[if_neg e]at st1
 have hps:=zHi st.program (Vametc.inputsOf st.bound) st.family
 have hms:∀k∈Vametc.strongFound st.program (Vametc.inputsOf st.bound) st.family,k < (Vametc.candidates st.family).length:=fun k hk=>zOc hk
 generalize hl0:Vametc.strongFound st.program (Vametc.inputsOf st.bound) st.family=l at st1 hps hms d1
 have dl:Dm H1 v1 (zFj l):=d1.same (zBs zBv e1)
 obtain⟨na,rfl,hna⟩:=Dm.row_inv dl
 refine (zq rfl ⟨na,(zq rfl ⟨.inl (SqL.of hna),_,(zq rfl ⟨rfl,(zq rfl ?_)⟩)⟩)⟩)
 rw[List.length_map,zEv]
 refine zD2 (fun e2=>?_) fun e2=>?_
 ·have e2:(10:Int) < (l.length:Int):=of_decide_eq_true e2
  rw[if_pos (by omega)]at st1
  exact hE CZ (-6) H1 hRef6 e1 st1
 have e2:¬(10:Int) < (l.length:Int):=fun z=>e2 (decide_eq_true z)
 rw[if_neg (by omega)]at st1
 have ht1:=e1 _ _ ht
 have hin1:=hin.same (sA.trans e1)
 obtain⟨oa,ox,rfl,hoa,hox⟩:=Dm.list_inv hin1.o
 have hol:st.others.length<=8:=okS.ol
 refine (zq rfl (zf ht1 B.cl B.n4 (zWy _ _ _ _) ⟨oa,rfl,⟨_,SqL.of hoa⟩,fun D hD=>zR7 (ds:=st.others.map zBt) (es:=st.others.map fun o=>zFj (zBp l (zId st.family (Vametc.inputsOf st.bound) o))) (Same.refl H1) hoa hox (by rw[List.length_map,List.length_map]) hD (by rw[List.length_map];omega) (fun x=>rfl) (fun j x d e' A' H' R hj he q1 q2 q3 dx' kk=>?_) (fun H2 sm2 dv=>?_)⟩))
 ·obtain⟨o,ho,rfl⟩:=zCs hj
  obtain⟨o',ho',rfl⟩:=zCs he
  obtain rfl:o=o':=Option.some.inj (ho.symm.trans ho')
  exact (zq rfl (zq rfl (zq rfl ⟨t,dx,vp,ba,vf,_,_,_,st,l,o,rfl,q3 _ _ ht1,hin1.same q3,okS,dl.same q3,hms,(by omega),dx'.same q3,okS.op o (List.mem_of_getElem? ho),e,fun H3 v3 e3 d3=>kk H3 v3 e3 (d3.same zQ3)⟩)))
 have dm:Dm H2 (.ref D) (.list ((st.others.map fun o=>zBp l (zId st.family (Vametc.inputsOf st.bound) o)).map zFj)):=by
  rw[List.map_map]
  exact dv.same (zBs (Same.refl H1) sm2)
 have lse:=zKt l hps (st.others.map fun o=>zId st.family (Vametc.inputsOf st.bound) o)
 have et:Vametc.heldTable st.others (Vametc.inputsOf st.bound) (l.filterMap fun k=>(Vametc.candidates st.family)[k]?)=(st.others.map fun o=>zId st.family (Vametc.inputsOf st.bound) o).map fun h=>l.map h:=by
  unfold Vametc.heldTable
  rw[List.map_map]
  refine List.map_congr_left fun o _=>?_
  rw[zN9 hms]
  rfl
 rw[et]at st1
 have eml:((st.others.map fun o=>zId st.family (Vametc.inputsOf st.bound) o).map (zBp l))=st.others.map fun o=>zBp l (zId st.family (Vametc.inputsOf st.bound) o):=by rw[List.map_map];rfl
 rw[eml]at lse
 generalize (Vametc.leastBy ((st.others.map fun o=>zId st.family (Vametc.inputsOf st.bound) o).map fun h=>l.map h) l.length).filterMap (fun i=>l[i]?)=r at st1 lse
 have rl:r.length<=10:=by
  have hr0:=List.mem_of_find?_eq_some lse
  unfold zB1 at hr0
  obtain⟨m,hm,hrm⟩:=List.mem_flatMap.mp hr0
  have:=List.mem_range.mp hm
  rw[(zCt m l r hrm).1]
  omega
 refine (zq rfl (zq rfl ⟨_,_,l,r,(zq rfl ⟨dl.same sm2,dm,hps,(by omega),(fun m hm=>?_),(by rw[List.length_map];omega),lse,fun H3 v3 e3 d3=>?_⟩)⟩))
 ·obtain⟨o,_,rfl⟩:=List.mem_map.mp hm
  unfold zBp
  exact Nat.le_trans (List.length_filter_le _ _) (by omega)
 have s3:=(e1.trans sm2).trans e3
 exact⟨v3,r,rfl,d3,(by omega),fun H4 p e4 hp h4=>zEm hT okS hQ st1 (s3.trans e4) (s3.free hp) h4⟩
end
end Rf
namespace L2
open PySem PySem.Spec PyProof.Rows
section
variable {X:Cx} {k:Nat} {f C:Addr} {ps:List Str} {sp:Sp} {E:XK} {x:Str} {p pos:Pos}
theorem zQ4(M:Mk X.K C f)(Cc:Callee X.prog X.w X.K X.mg X.base k f ps sp)(hr:Room (k+1) X.A)(hg:Gl X x)(hm:X.mg x=some (.ref C))(hw:Wants X E)
  (hdb:(x == ("__debug__":Str))=false:=by decide):PE X (.Call (.Name x p) [] [] pos) (zTb C sp E zMk):=by
 obtain⟨⟨fd,F,b⟩,kp⟩:=Cc
 intro pins s σ H Q I h
 refine zRn M F hr hg hm b .nil hw.passes hdb pins s σ H Q I ?_
 exact h
end
end L2
namespace Rf
open PySem PySem.Spec PyProof.Rows L2
open PySem.W (WData)
open VametBase (within)
section
variable {P:Program} {w:World} {K:PySem.W.Frag} {mg:Str->Option Value} {base:Heap} {CB CF CO CC CN CX CT fB0 fF0 fO0 fC0 fT fV fH:Addr} {Ref:List (Addr×Int)}
noncomputable abbrev s93:Stmt:=zBk (top 119) 0
theorem yFf:zAg ["self"] ["self"] (zAc s93):= fsc
noncomputable def yBt(CB CF CO:Addr):Sp:=fun vs H Q _=>∃(p dx:Addr),vs= [.ref p]/\H p=some (.ins CO dx [])/\∀H' vp ba vf vo,Keep p H H'->H' p=some (.ins CO dx (oF vp (.ref ba) vf vo))->ToldIn CB CF (mix A0 H H') vp ba vf vo Vametc.start->Q .non H'
theorem yFg(F:∃fd,Fun K "__init__" "Told.__init__" s93 fO0 fd)(B:zB3 K mg CO fO0)(BB:zD5 K mg CB fB0)(BF:zJc K mg CF fF0)(CBI:L2.Callee P w K mg base 1 fB0 ["self","length","first","second"] (spB CB))(CFI:L2.Callee P w K mg base 1 fF0 ["self","conditions","input_turnings","output_turnings","ways"] (zY8 CF)):
  L2.Callee P w K mg base 3 fO0 ["self"] (yBt CB CF CO):=by
 refine Fun.callee0 F yFf (fun vs H Q E h=>?_) (fun _ _ _ _ _ _=>b1 fun _=>rfl) (fun cdv A outer s H vs Q E hr h=>?_)
 ·obtain⟨_,_,rfl,_⟩:=h
  rfl
 ·obtain⟨p,dx,rfl,hp,k⟩:=h
  refine⟨_,zAe (zBn (pv 0) (zKz zAd) rfl)
   (zAe (zBn (pv 0) (zB0 (E:=E0) BB.make CBI hr (by rfl) BB.gl zAm (zAa zAp (zAa zAp (zAa zAp zAd)))) rfl)
   (zAe (zBn (pv 0) (zB0 (E:=E0) BF.make CFI hr (by rfl) BF.gl zAm (zAa (zA4 zAd) (zAa (zA4 zAd) (zAa (zA4 zAd) (zAa (zA4 zAd) zAd))))) rfl)
   (zAf (zBn (pv 0) (zA4 zAd) rfl)))),?_⟩
  have hHp:(H p).isSome=true:=by rw[hp];rfl
  have z0:(0:Nat)<=sizeLine:=Nat.zero_le _
  refine⟨z0,fun a1 ha1=>(zq rfl ⟨p,CO,dx,(zq rfl ⟨Same.upd ha1 _ _ hp,B.cl,B.n1,(by show 0 < 1000;decide),?_⟩)⟩)⟩
  have s1:Same H (upd H a1 (.tup [])):=Same.upd ha1
  have b1:upd H a1 (.tup []) a1=some (.tup []):=zAb
  have n1:a1≠p:=fun z=>by rw[z,hp]at ha1;cases ha1
  generalize hG1:upd (upd H a1 (.tup [])) p (.ins CO dx (zA9 "program" (.ref a1) []))=H1
  have k1:Keep p H H1:=by rw[<-hG1];exact(Keep.of s1).trans (Keep.upd (by rw[s1 _ _ hp];rfl))
  have p1:H1 p=some (.ins CO dx (zA9 "program" (.ref a1) [])):=by rw[<-hG1];exact zAb
  have c1:H1 a1=some (.tup []):=by rw[<-hG1,zAj n1];exact b1
  clear hG1
  refine fun x bx hx hbx hne=>⟨x,bx,_,_,(zq rfl ⟨zAb,rfl,(zq rfl ⟨p,CO,dx,zA9 "program" (.ref a1) [],rfl,?_,B.cl,B.n2,(by show 1 < 1000;decide),?_⟩)⟩)⟩
  ·rw[zBh]
   exact zA3 hx hbx _ _ p1
  rw[zBh]
  have s2:Same H1 (upd (upd H1 bx (.own x)) x (.ins CB bx (bF (.int 0) (.int 0) (.int 0)))):=zA3 hx hbx
  have nx:x≠p:=fun z=>by rw[z,p1]at hx;cases hx
  generalize hG2:upd (upd (upd H1 bx (.own x)) x (.ins CB bx (bF (.int 0) (.int 0) (.int 0)))) p (.ins CO dx (zA9 "bound" (.ref x) (zA9 "program" (.ref a1) [])))=H2
  have k12:Keep p H1 H2:=by rw[<-hG2];exact(Keep.of s2).trans (Keep.upd (by rw[s2 _ _ p1];rfl))
  have p2:H2 p=some (.ins CO dx (zA9 "bound" (.ref x) (zA9 "program" (.ref a1) []))):=by rw[<-hG2];exact zAb
  have c2:H2 x=some (.ins CB bx (bF (.int 0) (.int 0) (.int 0))):=by rw[<-hG2,zAj nx];exact zAb
  clear hG2
  have k2:=k1.trans k12
  refine⟨z0,fun a2 ha2=>⟨z0,fun a3 ha3=>⟨z0,fun a4 ha4=>⟨z0,fun a5 ha5=>?_⟩⟩⟩⟩
  have t2:Same H2 (upd H2 a2 (.lst [])):=Same.upd ha2
  have t3:=t2.trans (Same.upd (o:= .lst []) ha3)
  have t4:=t3.trans (Same.upd (o:= .lst []) ha4)
  have t5:=t4.trans (Same.upd (o:= .lst []) ha5)
  have f2:H2 a2=none:=ha2
  have f3:=t2.free ha3
  have f4:=t3.free ha4
  have f5:=t4.free ha5
  generalize hG3:upd (upd (upd (upd H2 a2 (.lst [])) a3 (.lst [])) a4 (.lst [])) a5 (.lst [])=H3 at t5
  have d2:H3 a2=some (.lst []):=by rw[<-hG3];exact Same.upd ha5 _ _ (Same.upd ha4 _ _ (Same.upd ha3 _ _ zAb))
  have d3:H3 a3=some (.lst []):=by rw[<-hG3];exact Same.upd ha5 _ _ (Same.upd ha4 _ _ zAb)
  have d4:H3 a4=some (.lst []):=by rw[<-hG3];exact Same.upd ha5 _ _ zAb
  have d5:H3 a5=some (.lst []):=by rw[<-hG3];exact zAb
  clear hG3
  refine fun y fx hy hfx hne2=>⟨y,fx,_,_,_,(zq rfl ⟨zAb,rfl,(zq rfl ⟨p,CO,dx,zA9 "bound" (.ref x) (zA9 "program" (.ref a1) []),rfl,?_,B.cl,B.n3,Nat.lt_of_le_of_lt (zAt _ _ _) (by show 2 < 1000;decide),?_⟩)⟩)⟩
  ·rw[zBh]
   exact zA3 hy hfx _ _ (t5 _ _ p2)
  rw[zBh]
  have s4:Same H3 (upd (upd H3 fx (.own y)) y (.ins CF fx (fF (.ref a2) (.ref a3) (.ref a4) (.ref a5)))):=zA3 hy hfx
  have p3:=t5 _ _ p2
  have ny:y≠p:=fun z=>by rw[z,p3]at hy;cases hy
  generalize hG4:upd (upd (upd H3 fx (.own y)) y (.ins CF fx (fF (.ref a2) (.ref a3) (.ref a4) (.ref a5)))) p (.ins CO dx (zA9 "family" (.ref y) (zA9 "bound" (.ref x) (zA9 "program" (.ref a1) []))))=H4
  have k34:Keep p H3 H4:=by rw[<-hG4];exact(Keep.of s4).trans (Keep.upd (by rw[s4 _ _ p3];rfl))
  have p4:H4 p=some (.ins CO dx (zA9 "family" (.ref y) (zA9 "bound" (.ref x) (zA9 "program" (.ref a1) [])))):=by rw[<-hG4];exact zAb
  have c4:H4 y=some (.ins CF fx (fF (.ref a2) (.ref a3) (.ref a4) (.ref a5))):=by rw[<-hG4,zAj ny];exact zAb
  clear hG4
  have k3:Keep p H H3:=k2.trans (Keep.of t5)
  have k4:=k3.trans k34
  refine⟨z0,fun a6 ha6=>(zq rfl ⟨p,CO,dx,(zq rfl ⟨Same.upd ha6 _ _ p4,B.cl,B.n4,Nat.lt_of_le_of_lt (Nat.le_trans (zAt _ _ _) (Nat.succ_le_succ (zAt _ _ _))) (by show 3 < 1000;decide),?_⟩)⟩)⟩
  have s6:Same H4 (upd H4 a6 (.lst [])):=Same.upd ha6
  have k45:Keep p H4 (upd (upd H4 a6 (.lst [])) p (.ins CO dx (oF (.ref a1) (.ref x) (.ref y) (.ref a6)))):=(Keep.of s6).trans (Keep.upd (by rw[s6 _ _ p4];rfl))
  have n6:a6≠p:=fun z=>by rw[z,p4]at ha6;cases ha6
  have fr:∀{b:Addr} {Hi:Hp},Keep p H Hi->Hi b=none->H b=none:=fun kk hh=>kk.free hh
  have ne:∀{b:Addr},H b=none->b≠p:=fun hh z=>by rw[z,hp]at hh;cases hh
  have v1:=ha1
  have vx:H x=none:=fr k1 hx
  have v2:H a2=none:=fr k2 f2
  have v3:H a3=none:=fr k2 f3
  have v4:H a4=none:=fr k2 f4
  have v5:H a5=none:=fr k2 f5
  have vy:H y=none:=fr k3 hy
  have v6:H a6=none:=fr k4 ha6
  have k35:=k34.trans k45
  have g2:=zAs (A:=A0) v2 (k35.1 _ _ d2 (ne v2))
  have g3:=zAs (A:=A0) v3 (k35.1 _ _ d3 (ne v3))
  have g4:=zAs (A:=A0) v4 (k35.1 _ _ d4 (ne v4))
  have g5:=zAs (A:=A0) v5 (k35.1 _ _ d5 (ne v5))
  have k25:=(Keep.of t5).trans k35
  have k15:=k12.trans k25
  refine k _ (.ref a1) x (.ref y) (.ref a6) (k4.trans k45) zAb ⟨.tup (zAs v1 (k15.1 _ _ c1 (ne v1))) .nil,⟨bx,zAs vx (k25.1 _ _ c2 (ne vx))⟩,⟨y,fx,_,_,_,(zq rfl ⟨zAs vy (k45.1 _ _ c4 (ne vy)),.lst g2 .nil,.lst g3 .nil,.lst g4 .nil,.lst g5 .nil⟩)⟩,.lst (zAs v6 ?_) .nil⟩
  rw[zAj n6]
  exact zAb
end
open VametBase (within)
theorem zSx(c:List (List Int)):PyVametc.whole c=c:=by
 rcases c with _ | ⟨_ | ⟨n,xs⟩,rows⟩
 ·rfl
 ·rfl
 ·rcases n with(_ | _ | _ | _ | _ | _ | _ | _ | _ | _ | _ | _ | n) | n
  all_goals first | rfl | (rcases xs with _ | ⟨x,_ | ⟨y,_ | ⟨z,_ | ⟨u,xs⟩⟩⟩⟩ <;> first | rfl | (rcases rows with _ | ⟨a,_ | ⟨b,_ | ⟨c,_ | ⟨d,_ | ⟨e,rows⟩⟩⟩⟩⟩ <;> rfl))
theorem zL5(cs:List (List (List Int))):cs.map PyVametc.whole=cs:=by
 induction cs with
 | nil=>rfl
 | cons c cs ih=>rw[List.map_cons,zSx,ih]
theorem zC7{l:List Int}{n:Nat}(h:VametcNeutral.listOk l n=true):l.length<=n:=by
 unfold VametcNeutral.listOk at h
 rw[Bool.and_eq_true,decide_eq_true_iff]at h
 exact h.2
theorem zO2{c:List (List Int)}(h:VametcNeutral.asked1 c=true):(∃k,VametcNeutral.callOf c=some k)/\zJg c:=by
 have two:∀{a l:List Int} {n:Nat},a.length<=10000->l.length<=n->n<=10000->zJg [a,l]:=by
  intro a l n h1 h2 h3 x hx
  rcases List.mem_cons.mp hx with rfl | hx
  ·exact h1
  ·rw[List.mem_singleton.mp hx];omega
 have one:∀{a:List Int},a.length<=10000->zJg [a]:=by
  intro a h1 x hx
  rw[List.mem_singleton.mp hx];exact h1
 have fam:∀{a i o r:List Int},VametcNeutral.asked1 [[2],a,i,o,r] =true->zJg [[2],a,i,o,r]:=by
  intro a i o r h
  have h:(_&&_)=true:=h
  simp only [Bool.and_eq_true]at h
  obtain⟨h1,h2,h3,h4⟩:=h
  have g1:=zC7 h1
  have g2:=zC7 h2
  have g3:=zC7 h3
  have g4:=zC7 h4
  intro x hx
  simp only [List.mem_cons,List.not_mem_nil,or_false]at hx
  rcases hx with rfl | rfl | rfl | rfl | rfl
  ·decide
  all_goals omega
 rcases c with _ | ⟨_ | ⟨n,xs⟩,rows⟩
 ·cases(show false=true from h)
 ·cases(show false=true from h)
 ·rcases n with(_ | _ | _ | _ | _ | _ | _ | _ | _ | _ | _ | _ | n) | n
  all_goals first | cases(show false=true from h) | (rcases xs with _ | ⟨x,_ | ⟨y,_ | ⟨z,_ | ⟨u,xs⟩⟩⟩⟩ <;> first | cases(show false=true from h) | (rcases rows with _ | ⟨a,_ | ⟨b,_ | ⟨c,_ | ⟨d,_ | ⟨e,rows⟩⟩⟩⟩⟩ <;> first | cases(show false=true from h) | exact⟨⟨_,rfl⟩,one (Nat.le_of_ble_eq_true rfl)⟩ | exact⟨⟨_,rfl⟩,two (Nat.le_of_ble_eq_true rfl) (zC7 h) (by decide)⟩ | exact⟨⟨_,rfl⟩,fam h⟩ | exact⟨⟨_,rfl⟩,two (Nat.le_of_ble_eq_true rfl) (zC7 (Bool.and_eq_true_iff.mp h).2) (by decide)⟩))
theorem zQ5{st:Vametc.State}{c:List (List Int)}{k:Vametc.Call}(cs:List (List (List Int)))(h:VametcNeutral.callOf c=some k):
  PyFlat.told (PyFlat.played VametcNeutral.step st (c::cs))=(((Vametc.step st k).2.length:Int)::(Vametc.step st k).2) ++PyFlat.told (PyFlat.played VametcNeutral.step (Vametc.step st k).1 cs):=by
 have e:VametcNeutral.step st c=((Vametc.step st k).1,(Vametc.step st k).2):=by
  unfold VametcNeutral.step
  rw[h]
  rfl
 unfold PyFlat.told
 show List.flatMap _ ((VametcNeutral.step st c).2::PyFlat.played VametcNeutral.step (VametcNeutral.step st c).1 cs)= _
 rw[e,List.flatMap_cons]
theorem zMz{l:List Int}(h:PyVametc.answers_asked l=true):∃cs,PyFlat.calls PyVametc.shape l.length l=some cs/\(∀c∈cs,VametcNeutral.asked1 c=true)/\PyVametc.answers l=PyFlat.told (PyFlat.played VametcNeutral.step Vametc.start cs)/\(PyVametc.answers l).length<=10000000:=by
 unfold PyVametc.answers_asked at h
 cases e:PyFlat.calls PyVametc.shape l.length l with
 | none=>rw[e]at h;cases h
 | some cs=>
  rw[e]at h
  simp only [Bool.and_eq_true]at h
  obtain⟨⟨⟨_,_⟩,h1⟩,h2⟩:=h
  refine⟨cs,rfl,?_,?_,?_⟩
  ·rw[zL5]at h1
   unfold VametcNeutral.asked at h1
   rw[Bool.and_eq_true]at h1
   exact List.all_eq_true.mp h1.1
  ·unfold PyVametc.answers PyVametc.calls
   rw[e]
   show PyFlat.told (PyFlat.played _ _ (cs.map PyVametc.whole))= _
   rw[zL5]
   rfl
  ·unfold PyFlat.short at h2
   exact of_decide_eq_true h2
theorem zO3{p:Int}{r:List Int}{f:Nat}{cs:List (List (List Int))}(h:PyFlat.calls PyVametc.shape f (p::r)=some cs):∃f' c t cs',PyFlat.call PyVametc.shape (p::r)=some (c,t)/\PyFlat.calls PyVametc.shape f' t=some cs'/\cs=c::cs':=by
 cases f with
 | zero=>cases h
 | succ f=>
  unfold PyFlat.calls at h
  cases e:PyFlat.call PyVametc.shape (p::r)with
  | none=>rw[e]at h;cases h
  | some u=>
   obtain⟨c,t⟩:=u
   rw[e]at h
   dsimp only at h
   cases e2:PyFlat.calls PyVametc.shape f t with
   | none=>rw[e2]at h;cases h
   | some cs'=>
    rw[e2]at h
    exact⟨f,c,t,cs',rfl,e2,(Option.some.inj h).symm⟩
theorem big{n:Nat}(h:n<=10000000):n < sizeLine:=Nat.lt_of_le_of_lt h (by decide)
section
variable {P:Program} {w:World} {K:PySem.W.Frag} {mg:Str->Option Value} {base:Heap} {C fI fD fN fW fR CB CF CO CC fO0 fC0:Addr}
theorem ReaderAt.keep{H H':Hp}{r la t D dx:Addr}{l:List Int}{p:Nat}{fs:List (Str×V)}(h:ReaderAt K C H r la l p)(k:Keep t H H')(ht:H t=some (.ins D dx fs))(hrt:r≠t):ReaderAt K C H' r la l p:=by
 obtain⟨⟨rx,hr⟩,hs,h1,h2⟩:=h
 exact⟨⟨rx,k.1 _ _ hr hrt⟩,k.sqL hs ht,h1,h2⟩
noncomputable def spR(CB CF CO CC:Addr):Sp:=fun vs H Q _=>∃(t:Addr) (v:V) (A:Hp) (st:Vametc.State) (c:List (List Int)) (k:Vametc.Call),vs= [.ref t,v]/\ToldAt CB CF CO A H t st/\CallAt CC A v c/\zQy st/\zJg c/\VametcNeutral.callOf c=some k/\
 ∀H' v,Keep t H H'->ToldAt CB CF CO (mix A H H') H' t (Vametc.step st k).1->zQy (Vametc.step st k).1->Dm (mix A H H') v (zCl (Vametc.step st k).2)->Q v H'
noncomputable abbrev zTk:Stmt:=top 142
theorem sc103:zAg ["calls","reader","told","answered","answer"] ["calls"] (zAc zTk):= fsc
noncomputable def zL6(K:PySem.W.Frag):Sp:=fun vs H Q _=>∃(la:Addr) (l:List Int),vs= [.ref la]/\SqL K H la (l.map V.int)/\l.length<=10000/\PyVametc.answers_asked l=true/\∀H' v,Same H H'->Dm (mix A0 H H') v (zCl (PyVametc.answers l))->Q v H'
theorem yAo{f fr fa:Addr}{ka:Nat}{fd:FuncData}(F:Fun K "answers" "answers" zTk f fd)(Bl:Blt mg)(R:zBw K mg C fI fD fN fW fR)(B:zB3 K mg CO fO0)(hka:4<=ka)
  (CI:L2.Callee P w K mg base 1 fI ["self","numbers"] (zY1 C)) (CD:L2.Callee P w K mg base 1 fD ["self"] (zNv K C)) (COI:L2.Callee P w K mg base 3 fO0 ["self"] (yBt CB CF CO))
  (mr:mg "read_call" =some (.ref fr)) (Cr:L2.Callee P w K mg base 4 fr ["reader"] (zTi K C CC)) (ma:mg "answer_or_refusal" =some (.ref fa)) (Ca:L2.Callee P w K mg base ka fa ["told","call"] (spR CB CF CO CC)):
  FnOk P w K mg base (CXe P w) (ka+1) f fd ["calls"] (zL6 K):=by
 refine F.ok0 sc103 (fun vs H Q E h=>?_) (fun cdv A outer s H vs Q E hr h=>?_)
 ·obtain⟨_,_,rfl,_⟩:=h
  rfl
 ·obtain⟨la,l,rfl,hs,hl,hask,k⟩:=h
  obtain⟨cs0,hcs0,hask0,hans,hlen⟩:=zMz hask
  refine⟨_,zAe (zAq (i:=1) sc103.nd rfl (Or.inl rfl) (zB0 (E:=E0) R.make CI (hr.mono (by omega)) (by rfl) R.gl zAm (zAa (pv 0) zAd)))
   (zAe (zAq (i:=2) sc103.nd rfl (Or.inl rfl) (zQ4 (E:=E0) B.make COI (hr.mono (by omega)) (by rfl) B.gl zAm))
   (zAe (zAq (i:=3) sc103.nd rfl (Or.inl rfl) (zA4 zAd))
   (zAe (zRg PassesOwn.never (zE3 (zBb (zCq (E:=E0) (pv 1) R.cl R.mD CD (hr.mono (by omega)) zAm) (fun _=>rfl)))
    (zAe (zAq (i:=4) sc103.nd rfl (Or.inl rfl) (zAh (E:=E0) Ca hr (by rfl) ma zAm (zAa (pv 2) (zAa (zAh (E:=E0) Cr (hr.mono hka) (by rfl) mr zAm (zAa (pv 1) zAd)) zAd))))
    (zAe (zC8 (zFc PySem.F.plainAttrs_list PySem.F.slot_list_append PySem.F.type_list_append zEf (pv 3) (zAa (zAn zAk (by rfl) Bl.len PySem.boot_len (zAa (pv 4) zAd)) zAd)))
    (zAf (zC8 (zFc PySem.F.plainAttrs_list PySem.F.slot_list_extend PySem.F.type_list_extend zDo (pv 3) (zAa (pv 4) zAd)))))))
   (zAf (zAi (pv 3)))))),?_⟩
  refine (zq rfl (fun r rx hr0 hrx hne=>⟨r,rx,(zq rfl ⟨zAb,rfl,?_⟩)⟩))
  rw[zBh]
  have s1:Same H (upd (upd H rx (.own r)) r (.ins C rx (rF (.ref la) (.int 0)))):=zA3 hr0 hrx
  generalize hG1:upd (upd H rx (.own r)) r (.ins C rx (rF (.ref la) (.int 0)))=H1 at s1
  have r1:H1 r=some (.ins C rx (rF (.ref la) (.int 0))):=by rw[<-hG1];exact zAb
  clear hG1
  have hR1:ReaderAt K C H1 r la l 0:=⟨⟨rx,r1⟩,s1.seq hs,Nat.zero_le _,hl⟩
  refine fun t tx ht0 htx hne2=>⟨t,tx,rfl,zAb,fun H2 vp ba vf vo kp ht2 hin=>⟨rfl,?_⟩⟩
  have sm:=zA3 (o:= .ins CO tx []) ht0 htx
  have hmt:upd (upd H1 tx (.own t)) t (.ins CO tx []) t=some (.ins CO tx []):=zAb
  generalize upd (upd H1 tx (.own t)) t (.ins CO tx [])=Hm at kp hin sm hmt
  have s2:Same H1 H2:=kp.inA sm ht0
  have hrt:r≠t:=fun z=>by rw[<-z,r1]at ht0;cases ht0
  have hR2:=hR1.same s2
  have sI:Same (mix A0 Hm H2) H2:=kp.mixI zBv rfl
  refine⟨Nat.zero_le _,fun D hD=>?_⟩
  have hDr:D≠r:=fun z=>by rw[z,s2 _ _ r1]at hD;cases hD
  have hDt:D≠t:=fun z=>by rw[z,ht2]at hD;cases hD
  have hDH:H D=none:=s1.free (s2.free hD)
  have htH:H t=none:=s1.free ht0
  have hnone:∀b,(Hm b).isSome=true\/H2 b=none->mix A0 Hm H2 b=none:=fun b hb=>by
   rcases hb with hb | hb
   ·obtain⟨o,ho⟩:=Option.isSome_iff_exists.mp hb
    rw[zA8 ho];rfl
   ·cases ho:Hm b with
    | some o=>rw[zA8 ho];rfl
    | none=>rw[zA7 ho];exact hb
  refine⟨fun m σ H'=>∃(q fu:Nat) (cs:List (List (List Int))) (st:Vametc.State) (acc:List Int) (A:Hp) (v4:Option V),σ= [some (.ref la),some (.ref r),some (.ref t),some (.ref D),v4]/\m=cs.length/\Same H H'/\ReaderAt K C H' r la l q/\PyFlat.calls PyVametc.shape fu (l.drop q)=some cs/\(∀c∈cs,VametcNeutral.asked1 c=true)/\
    PyVametc.answers l=acc++PyFlat.told (PyFlat.played VametcNeutral.step st cs)/\zQy st/\ToldAt CB CF CO A H' t st/\A r=none/\A D=none/\H' D=some (.lst (acc.map V.int)),
   ⟨_,0,l.length,cs0,Vametc.start,[],mix A0 Hm H2,none,rfl,rfl,(s1.trans s2).trans (Same.upd hD),hR2.same (Same.upd hD),hcs0,hask0,hans,zSt,⟨sI.trans (Same.upd hD),hnone t (.inl (by rw[hmt];rfl)),tx,vp,ba,vf,vo,Same.upd hD _ _ ht2,hin⟩,hnone r (.inl (by rw[sm _ _ r1];rfl)),hnone D (.inr hD),zAb⟩,?_⟩
  rintro m σ H' ⟨q,fu,cs,st,acc,A,v4,rfl,rfl,sH,hR,hcs,hask,hans',okS,hT,hAr,hAD,hq⟩
  obtain⟨⟨rx',hr'⟩,_⟩:=id hR
  refine (zq rfl ⟨r,rx',(zq rfl ⟨hr',zFi _ _ (by decide +kernel) (by decide +kernel),r,la,l,q,rfl,hR,(zq rfl ?_)⟩)⟩)
  cases hd:l.drop q with
  | nil=>
   rw[decide_eq_true rfl]
   refine zG3 (zq rfl (k H' _ sH (Dm.row (zAs hDH ?_))))
   rw[hd]at hcs
   have e:cs= []:=by
    have e:some ([]:List (List (List Int)))=some cs:=by rw[<-hcs];cases fu <;> rfl
    exact(Option.some.inj e).symm
   rw[hq,hans',e]
   show _=some (HO.lst ((acc++ []).map V.int))
   rw[List.append_nil]
  | cons p r0=>
   rw[decide_eq_false (by simp)]
   refine zE6 ⟨fun σ2 H2=>∃m',m' < cs.length/\_,fun _ _ h=>h,?_⟩
   rw[hd]at hcs
   obtain⟨fu',c,rest,cs',hcall,hcs',rfl⟩:=zO3 hcs
   obtain⟨⟨kc,hkc⟩,okr⟩:=zO2 (hask c List.mem_cons_self)
   obtain⟨sA,hAt,dx,vp',ba',vf',vo',ht',hin'⟩:=id hT
   have hHr:=hR.there
   have hHt:(H' t).isSome=true:=by rw[ht'];rfl
   rw[zQ5 cs' hkc]at hans'
   have hlen':acc.length+1+ (Vametc.step st kc).2.length<=10000000:=by
    have:=congrArg List.length hans'
    rw[List.length_append,List.length_append,List.length_cons]at this
    omega
   refine (zq rfl (zq rfl ⟨r,la,l,q,c,rest,rfl,hR,(by rw[hd];exact hcall),fun H3 v3 q3 kp3 hR3 hq3 hc3=>?_⟩))
   have ht3:=kp3.1 _ _ ht' hrt.symm
   have aT:mix A H' H3 t=none:=by rw[zA8 ht'];exact hAt
   have hD3:=kp3.1 _ _ hq hDr
   have hT3:ToldAt CB CF CO (mix A H' H3) H3 t st:=⟨kp3.mixI sA hAr,aT,dx,vp',ba',vf',vo',ht3,hin'.same (zBf sA)⟩
   have hC3:CallAt CC (mix A H' H3) v3 c:=hc3.same (zD8 (Keep.refl r H3) hHr)
   refine⟨t,v3,mix A H' H3,st,c,kc,rfl,hT3,hC3,okS,okr,hkc,fun H4 v4' kp4 hT4 ok4 d4=>?_⟩
   have hD4:=kp4.1 _ _ hD3 hDt
   have hR4:=hR3.keep kp4 ht3 hrt
   have aR:mix (mix A H' H3) H3 H4 r=none:=by
    obtain⟨o,ho⟩:=Option.isSome_iff_exists.mp hR3.there
    obtain⟨o',ho'⟩:=Option.isSome_iff_exists.mp hHr
    rw[zA8 ho,zA8 ho'];exact hAr
   have aD:mix (mix A H' H3) H3 H4 D=none:=by rw[zA8 hD3,zA8 hq];exact hAD
   obtain⟨sA4,hAt4,dx4,vp4,ba4,vf4,vo4,ht4,hin4⟩:=id hT4
   obtain⟨a4,rfl,ha4⟩:=Dm.row_inv d4
   have ha4':=sA4 _ _ ha4
   have n4:a4≠D:=fun z=>by rw[z,aD]at ha4;cases ha4
   have nt:t≠D:=hDt.symm
   refine (zq rfl ⟨.inl ⟨rfl,_,SqL.of hD4⟩,(zq rfl ⟨a4,(zq rfl ⟨.inl (SqL.of ha4'),D,_,(zq rfl ⟨rfl,hD4,?_,?_⟩)⟩)⟩)⟩)
   ·rw[List.length_map]
    exact big (by omega)
   refine (zq rfl ⟨.inl ⟨rfl,_,SqL.of zAb⟩,(zq rfl ⟨D,a4,_,(zq rfl ⟨rfl,zAb,(by rw[zAj n4];exact ha4'),?_,?_⟩)⟩)⟩)
   ·rw[List.length_append,List.length_map,List.length_map]
    exact Nat.le_of_lt (big (by show acc.length+1+ _<=_;omega))
   rw[zBh]
   refine⟨cs'.length,by rw[List.length_cons];omega,q3,fu',cs',_,acc++ (((Vametc.step st kc).2.length:Int)::(Vametc.step st kc).2),mix (mix A H' H3) H3 H4,some (.ref a4),rfl,rfl,?_,?_,?_,?_,?_,ok4,⟨?_,hAt4,dx4,vp4,ba4,vf4,vo4,?_,hin4⟩,aR,aD,?_⟩
   ·exact fun b o e=>by
     have e':=sH b o e
     have b1:b≠r:=fun z=>by rw[z,hr0]at e;cases e
     have b2:b≠t:=fun z=>by rw[z,htH]at e;cases e
     have b3:b≠D:=fun z=>by rw[z,hDH]at e;cases e
     rw[zAj b3]
     exact kp4.1 _ _ (kp3.1 _ _ e' b1) b2
   ·exact hR4.upd (s1.seq hs) (s2.free hD) hDr
   ·rw[hq3];exact hcs'
   ·exact fun c hc=>hask c (List.mem_cons_of_mem _ hc)
   ·rw[hans',List.append_assoc]
   ·exact Same.hole sA4 aD
   ·rw[zAj nt];exact ht4
   ·rw[zAb,List.map_append,List.append_assoc]
    rw[List.length_map]
    rfl
end
structure zX0(P:Program)(w:World)(K:PySem.W.Frag)(mg:Str->Option Value)(base:Heap)(CB CF CO CC:Addr)(Ref:List (Addr×Int))(aA:Addr)(fs:List Addr)(N:Nat):Prop where
 gl:mg "ANSWERS" =some (.ref aA)
 tup:∀H:Hp,SqT K H aA (fs.map V.ref)
 len:fs.length=N
 ok:∀(i:Nat) f,fs[i]? =some f->L2.Callee P w K mg base 10 f ["told","call"] (spA CB CF CO CC Ref (i:Int))
theorem zSy{c:List (List Int)}{k:Vametc.Call}(h:VametcNeutral.callOf c=some k):∃(i:Nat) (xs:List Int) (rows:List (List Int)),i < 12/\c=((i:Int)::xs)::rows:=by
 rcases c with _ | ⟨_ | ⟨n,xs⟩,rows⟩
 ·cases(show none=some k from h)
 ·cases(show none=some k from h)
 ·rcases n with n | n
  ·by_cases e:n < 12
   ·exact⟨n,_,_,e,rfl⟩
   ·obtain⟨m,rfl⟩:∃m,n=m+12:=⟨n - 12,by omega⟩
    cases(show none=some k from h)
  ·cases(show none=some k from h)
section
variable {P:Program} {w:World} {K:PySem.W.Frag} {mg:Str->Option Value} {base:Heap} {CB CF CO CC CN CX CY CP CZ fO0 fC0:Addr}
noncomputable abbrev yBu:Stmt:=top 141
theorem sc102:zAg ["told","call","find_answer"] ["told","call"] (zAc yBu):= fsc
noncomputable def yAp(Ref:List (Addr×Int))(H:Hp)(st:Vametc.State)(k:Vametc.Call):XK:=fun cls _ H'=>∃C code,cls= .ref C/\(C,code)∈Ref/\Same H H'/\Vametc.step st k=(st,[code])
noncomputable def zG1(CN CY CP CZ CX:Addr):List (Addr×Int):=[(CN,-1),(CY,-2),(CP,-3),(CZ,-6),(CX,-7)]
theorem yAq{f aA:Addr}{fs:List Addr}(F:DefAt K mg "answer_or_refusal" yBu f)(BC:zCw K mg CC fC0)(N1:zCr K mg "NotAsTold" CN)(N2:zCr K mg "NoSuchRelation" CY)(N3:zCr K mg "NoSuchProgram" CP)(N6:zCr K mg "TooManyStrongest" CZ)(N7:zCr K mg "TooManyInputs" CX)
  (nd:[CN,CY,CP,CZ,CX].Nodup) (T:zX0 P w K mg base CB CF CO CC (zG1 CN CY CP CZ CX) aA fs 12):
  L2.Callee P w K mg base 11 f ["told","call"] (spR CB CF CO CC):=by
 refine F.callee0 sc102 (fun vs H Q E h=>?_) (fun _ _ _ _ _ _=>b2 fun _ _=>rfl) (fun cdv A outer s H vs Q E hr h=>?_)
 ·obtain⟨_,_,_,_,_,_,rfl,_⟩:=h
  rfl
 ·obtain⟨t,v,Ar,st,c,k,rfl,hT,hC,okS,okr,hk,hQ⟩:=h
  obtain⟨i,xs,rows,hi,rfl⟩:=zSy hk
  obtain⟨sA,hAt,dx,vp,ba,vf,vo,ht,hin⟩:=id hT
  obtain⟨ca,cdx,vv,rv,rfl,hca,dvv,drv⟩:=id hC.inv
  obtain⟨f1,hf1⟩:=zDh (l:=fs) (i:=i) (by rw[T.len];exact hi)
  generalize hRf:zG1 CN CY CP CZ CX=Rf0 at T
  refine⟨_,zAe (zAq (i:=2) sc102.nd rfl (Or.inl rfl) (zBi zBx (zAr (v:= .ref aA) (by rfl) T.gl rfl) (zAl (pv 1) rfl) (fun _ _=>rfl)))
   (zAf (zV6 (E:=yAp Rf0 H st k) (tb:=yAs (zNj P w K mg base 10 (yAp Rf0 H st k) 2 (zEb (zFq 0) (zEb (zFq 1) zMk)))) rfl rfl
    (fun pn xe hw'=>zAf (zAi (zEs (k:=10) (i:=2) (E:=yAp Rf0 H st k) rfl (Or.inl rfl) hr hw' (zAa (pv 0) (zAa (pv 1) zAd)))))
    (.cons (C:=CN) (by rfl) N1.gl N1.flat (by decide) (fun e=>zAf (zAi (zA4 (zAa (zIg zE5 zAp) zAd))))
     (.cons (C:=CY) (by rfl) N2.gl N2.flat (by decide) (fun e=>zAf (zAi (zA4 (zAa (zIg zE5 zAp) zAd))))
     (.cons (C:=CP) (by rfl) N3.gl N3.flat (by decide) (fun e=>zAf (zAi (zA4 (zAa (zIg zE5 zAp) zAd))))
     (.cons (C:=CZ) (by rfl) N6.gl N6.flat (by decide) (fun e=>zAf (zAi (zA4 (zAa (zIg zE5 zAp) zAd))))
     (.cons (C:=CX) (by rfl) N7.gl N7.flat (by decide) (fun e=>zAf (zAi (zA4 (zAa (zIg zE5 zAp) zAd)))) .nil))))))),?_⟩
  refine (zq rfl (zf (sA _ _ hca) BC.cl BC.n1 (yE1 _ _ _) ⟨aA,_,_,(zq rfl ⟨rfl,T.tup _,zAw (v:=V.ref f1) (by rw[List.getElem?_map,hf1];rfl),?_,?_⟩)⟩))
  ·rintro cls H1 σ1 ⟨C,code,rfl,hm,e1,hst⟩
   rw[hst]at hQ
   have fin:∀p,H1 p=none->Q (.ref p) (upd H1 p (.lst [.int code])):=fun p hp=>by
    have s2:=e1.trans (Same.upd (o:= .lst [.int code]) hp)
    have k2:=Keep.of (r:=t) s2
    exact hQ _ _ k2 (hT.put k2 (s2 _ _ ht) (hin.same (zBf sA))) okS (Dm.row (zAs (e1.free hp) zAb))
   have one:(1:Nat)<=sizeLine:=by decide
   simp only [List.nodup_cons,List.mem_cons,List.not_mem_nil,or_false,not_or]at nd
   obtain⟨⟨a1,a2,a3,a4⟩,⟨b1,b2,b3⟩,⟨c1,c2⟩,d1,_⟩:=nd
   rw[<-hRf]at hm
   unfold zG1 at hm
   simp only [List.mem_cons,Prod.mk.injEq,List.not_mem_nil,or_false]at hm
   have hd:∀{C0:Addr} {t0:TS} {r:List (Addr×TS)} {D:zMe} {σ:L2.St} {H:Hp},t0 D σ H->hit ((C0,t0)::r) C0 D σ H:=fun h=>by unfold hit;rw[if_pos rfl];exact h
   have tl:∀{C C0:Addr} {t0:TS} {r:List (Addr×TS)} {D:zMe} {σ:L2.St} {H:Hp},C≠C0->hit r C D σ H->hit ((C0,t0)::r) C D σ H:=fun n h=>by unfold hit;rw[if_neg n];exact h
   rcases hm with⟨rfl,rfl⟩ | ⟨rfl,rfl⟩ | ⟨rfl,rfl⟩ | ⟨rfl,rfl⟩ | ⟨rfl,rfl⟩
   ·exact (zq rfl ⟨N1.flat,hd (zq rfl ⟨one,fin⟩)⟩)
   ·exact (zq rfl ⟨N2.flat,tl (Ne.symm a1) (hd (zq rfl ⟨one,fin⟩))⟩)
   ·exact (zq rfl ⟨N3.flat,tl (Ne.symm a2) (tl (Ne.symm b1) (hd (zq rfl ⟨one,fin⟩)))⟩)
   ·exact (zq rfl ⟨N6.flat,tl (Ne.symm a3) (tl (Ne.symm b2) (tl (Ne.symm c1) (hd (zq rfl ⟨one,fin⟩))))⟩)
   ·exact (zq rfl ⟨N7.flat,tl (Ne.symm a4) (tl (Ne.symm b3) (tl (Ne.symm c2) (tl (Ne.symm d1) (hd (zq rfl ⟨one,fin⟩)))))⟩)
  ·refine ⟨f1,_,(zq rfl ⟨T.ok _ _ hf1,(zq rfl (zq rfl ⟨t,_,Ar,st,_,k,rfl,hT,hC,okS,okr,⟨xs,rows,rfl⟩,hk,?_,hQ⟩))⟩)⟩
   exact fun C code H1 hm e1 hst=>⟨C,code,rfl,hm,e1,hst⟩
end
noncomputable def zB8(K:PySem.W.Frag)(a:Addr)(xs:List V):Prop:=∀H:Hp,SqT K H a xs
theorem tup_mk{K:PySem.W.Frag}{a:Addr}{xs:List V}{od:Option Addr}{its:Array Value}{n:Nat}{sl:Array (Option Value)}(l:K.lookup a=some ⟨.type "tuple",od,.seq its n,sl⟩)(hs:its.size<=sizeLine)(hv:Vals xs its.toList):zB8 K a xs:=fun H=> .inr ⟨_,its,n,l,rfl,rfl,hs,hv⟩
theorem def_mk{K:PySem.W.Frag}{h:Heap}{mg:Str->Option Value}{name:Str}{st:Stmt}{f:Addr}{oc:Value}{od an:Option Addr}{sl:Array (Option Value)}{kV dc pm cd ct:Value}(X:K.In h)(G:h.Ns mainGlobals mg)(a:PySem.W.nsIn K mainGlobals name=some (some (.ref f)))
  (l:K.lookup f=some ⟨oc,od,.func (PySem.W.fnOf name name (zDl st) (zCd st) (zAc st) .none kV dc pm an cd ct),sl⟩) (c:PySem.W.codeIn K cd name=true) (k:PySem.W.keepIn K (.ref f)=true):DefAt K mg name st f:=⟨PySem.W.mg_of X G a,_,fun_mk l c k⟩
theorem noat_mk{K:PySem.W.Frag}{C:Addr}{x:Str}(h:PySem.W.findIn K (.ref C) x=some none):NoAttr K C x:=h
theorem int_mk{K:PySem.W.Frag}{h:Heap}{mg:Str->Option Value}{x:Str}{i:Int}{t:Tok}(X:K.In h)(G:h.Ns mainGlobals mg)(a:PySem.W.nsIn K mainGlobals x=some (some (.int i t))):zDc mg x i:=⟨t,PySem.W.mg_of X G a⟩
noncomputable def isV:V->Value->Bool
 | .ref a,.ref b=>a == b
 | .int i,.int j _=>i == j
 | .non,.none=>true
 | _,_=>false
noncomputable def yAr:List V->List Value->Bool
 | [],[]=>true
 | x::xs,u::us=>isV x u&&yAr xs us
 | _,_=>false
theorem zU8{x:V}{u:Value}(h:isV x u=true):RelV x u:=by
 unfold isV at h
 split at h
 ·rw[eq_of_beq h];exact rfl
 ·rw[eq_of_beq h];exact⟨_,rfl⟩
 ·exact rfl
 ·cases h
theorem areV_vals:∀{xs:List V} {us:List Value},yAr xs us=true->Vals xs us
 | [],[],_=> .nil
 | [],_::_,h=>by cases h
 | _::_,[],h=>by cases h
 | x::xs,u::us,h=>by
  have h:(isV x u&&yAr xs us)=true:=h
  rw[Bool.and_eq_true]at h
  exact .cons (zU8 h.1) (areV_vals h.2)
theorem end_mk{P:Program}{w:World}{K:PySem.W.Frag}{h:Heap}{mg:Str->Option Value}{fa f:Addr}{oc:Value}{od an:Option Addr}{sl:Array (Option Value)}{kV dc pm cd ct:Value}(X:K.In h)(G:h.Ns mainGlobals mg)(hfa:mg "answers" =some (.ref fa))(a:PySem.W.nsIn K mainGlobals "answers" =some (some (.ref f)))
  (l:K.lookup f=some ⟨oc,od,.func (PySem.W.fnOf "answers" "answers" (zDl zTk) (zCd zTk) (zAc zTk) .none kV dc pm an cd ct),sl⟩) (c:PySem.W.codeIn K cd "answers" =true) (k:PySem.W.keepIn K (.ref f)=true)
  (rest:∀fd,Fun K "answers" "answers" zTk f fd->∀base:Heap,FnOk P w K mg base (CXe P w) 12 f fd ["calls"] (zL6 K)):
  ∃fd:FuncData,(∀(s:Shared) (us:List Value),us.length=(["calls"]:List Str).length->BindsTo s fd ⟨us,[]⟩ ((["calls"]:List Str).zip us))/\∀base:Heap,K.In base->base.Ns mainGlobals mg->FnOk P w K mg base (CXe P w) 12 fa fd ["calls"] (zL6 K):=by
 have e:=hfa.symm.trans (PySem.W.mg_of X G a)
 cases e
 exact⟨_,fun s us hu=>match us,hu with | [_],_=> .of_eq rfl,fun base _ _=>rest _ (fun_mk (st:=zTk) l c k) base⟩
theorem asked_mk{K:PySem.W.Frag}{H:Hp}{a:Addr}{l:List Int}{E:XK}(hs:SqL K H a (l.map V.int))(hl:l.length<=10000)(hask:PyVametc.answers_asked l=true):zL6 K [.ref a] H (fun v H'=>Dw K H' v (.list ((PyVametc.answers l).map WData.int))) E:=
 ⟨a,l,rfl,hs,hl,hask,fun H' v e d=>(d.same (zBs zBv e)).dw⟩
theorem zQ6{P:Program}{w:World}{H:Hp}{s s':Shared}{e:Value}(h:CXe P w [] H s (fun _ _ _=>False) e s'):False:=by
 obtain⟨_,_,_,_,_,_,_,_,_,_,_,_,h⟩:=h
 exact h
theorem walk_rf{r:PySem.W.OpenSpec}{q:Program}{loose:List Str}{XP:(Str->Option Value)->Heap->Prop}{YP:World->Heap->Prop}{d:DefRec}{K:Params->PySem.W.Frag}
  (hwell:r.wellSaid=true) (hdf:d.params.defaults= []) (hlen:r.args.length=1) (hr:Room 12 callerA) (hY:∀(w:World) (h:Heap),YP w h->(K w.params).In h)
  (F:∀(w:World) (mg:Str->Option Value) (fa:Addr) (h:Heap),YP w h->(K w.params).In h->h.Ns mainGlobals mg->mg d.name=some (.ref fa)->
   ∃fd:FuncData,(∀(s:Shared) (us:List Value),us.length=(["calls"]:List Str).length->BindsTo s fd ⟨us,[]⟩ ((["calls"]:List Str).zip us))/\∀base:Heap,(K w.params).In base->base.Ns mainGlobals mg->FnOk r.prog w (K w.params) mg base (CXe r.prog w) 12 fa fd ["calls"] (zL6 (K w.params)))
  (hsp:∀(K:PySem.W.Frag) (H:Hp) (xs:List V) (a:PySem.W.Codec.denoteAll r.args),PySem.W.Codec.withinAll r.args a=true->PySem.W.Codec.app r.args r.asked a=true->zG4 K H xs (PySem.W.Codec.encAll r.args a)->
   zL6 K xs H (fun v H'=>Dw K H' v (r.ret.enc (PySem.W.Codec.app r.args r.f a))) fun _ _ _=>False):PySem.W.WalkOS q loose XP YP r d [] (fun f vs=>PySem.call f vs):=
 L2.walk_spec (K:=K) (CX:=fun w=>CXe r.prog w) (ps:=["calls"]) (sp:=fun w=>zL6 (K w.params)) hwell hdf hlen hr hY F (fun w H xs a _ h2 h3 h4=>hsp (K w.params) H xs a h2 h3 h4) fun w H s e s' h=>zQ6 h
theorem all_mk{P:Program}{w:World}{K:PySem.W.Frag}{mg:Str->Option Value}{fd:FuncData}
  {f11 f12 f13 f14 f18 f21 f22 f23 f24 f25 f26 f32 f33 f34 f35 f36 f37 f38 f40 f43 f44 f47 f48 f49 f50 f51 f52 f53 f55 f56 f57 f58 f59 f63 f64 f65 f66 f67 f68 f69 f70 f71 f72 f73 f74 f75 f76 f77 f78 f79 f80 f83 f84 f85 f93 f94 f95 f96 f97 f98 f99 f100 f101 f102 f103 f108 f110 f112 f113 f114 f115 f120 f121 f122 f123 f124 f125 f126 f127 f128 f129 f130 f131 f132 f133 f134 f135 f136 f137 f138 f139 f141 f142 CB fB0 CC fC0 CR fR0 CF fF0 CD rI rD rN rW rR CT tI tL tR tF tV tH tA CO fO0 XN XY XP XZ XX aS aC aW aA aV v0 v1 v2 v6 v7 v8 v9 aH h0 h1 h2 h3 h4 h5 h6 h7 h8 h9 h10 h11 aF w0 w1 w2 w3 w4 w5 w6:Addr}
  {oV oH oF:Option Addr} {nV nH nF:Nat} {sV sH sF:Array (Option Value)}
  (Fa:Fun K "answers" "answers" zTk f142 fd)
  (D11:DefAt K mg "how_many_inputs" (top 11) f11)
  (D12:DefAt K mg "bound_as_told" (top 12) f12)
  (D13:DefAt K mg "one_longer" (top 13) f13)
  (D14:DefAt K mg "inputs_in_order" (top 14) f14)
  (D18:DefAt K mg "read_call" (top 18) f18)
  (D21:DefAt K mg "always" (top 21) f21)
  (D22:DefAt K mg "has_numbers" (top 22) f22)
  (D23:DefAt K mg "is_rising" (top 23) f23)
  (D24:DefAt K mg "none_below_zero" (top 24) f24)
  (D25:DefAt K mg "none_twice" (top 25) f25)
  (D26:DefAt K mg "has_as_many" (top 26) f26)
  (D32:DefAt K mg "equal" (top 32) f32)
  (D33:DefAt K mg "same_bag" (top 33) f33)
  (D34:DefAt K mg "same_numbers" (top 34) f34)
  (D35:DefAt K mg "at_most" (top 35) f35)
  (D36:DefAt K mg "at_least" (top 36) f36)
  (D37:DefAt K mg "begins" (top 37) f37)
  (D38:DefAt K mg "as_long" (top 38) f38)
  (D40:DefAt K mg "which_fit" (top 40) f40)
  (D43:DefAt K mg "how_many_relations" (top 43) f43)
  (D44:DefAt K mg "relation_of" (top 44) f44)
  (D47:DefAt K mg "fewest_asked" (top 47) f47)
  (D48:DefAt K mg "is_no_wider" (top 48) f48)
  (D49:DefAt K mg "has_same_turnings" (top 49) f49)
  (D50:DefAt K mg "follows_from" (top 50) f50)
  (D51:DefAt K mg "gives_way" (top 51) f51)
  (D52:DefAt K mg "is_strongest" (top 52) f52)
  (D53:DefAt K mg "strongest_of" (top 53) f53)
  (D55:DefAt K mg "one_more_each" (top 55) f55)
  (D56:DefAt K mg "sets_in_order" (top 56) f56)
  (D57:DefAt K mg "has_one_of" (top 57) f57)
  (D58:DefAt K mg "has_one_of_each" (top 58) f58)
  (D59:DefAt K mg "least_set" (top 59) f59)
  (D63:DefAt K mg "add_to_each" (top 63) f63)
  (D64:DefAt K mg "times_each" (top 64) f64)
  (D65:DefAt K mg "rest_of_each" (top 65) f65)
  (D66:DefAt K mg "without_signs" (top 66) f66)
  (D67:DefAt K mg "rising" (top 67) f67)
  (D68:DefAt K mg "turned_round" (top 68) f68)
  (D69:DefAt K mg "rotated" (top 69) f69)
  (D70:DefAt K mg "first_ones" (top 70) f70)
  (D71:DefAt K mg "behind_first_ones" (top 71) f71)
  (D72:DefAt K mg "those_above" (top 72) f72)
  (D73:DefAt K mg "each_once" (top 73) f73)
  (D74:DefAt K mg "sum_alone" (top 74) f74)
  (D75:DefAt K mg "greatest_alone" (top 75) f75)
  (D76:DefAt K mg "least_alone" (top 76) f76)
  (D77:DefAt K mg "count_alone" (top 77) f77)
  (D78:DefAt K mg "differences" (top 78) f78)
  (D79:DefAt K mg "running_sums" (top 79) f79)
  (D80:DefAt K mg "twice_over" (top 80) f80)
  (D83:DefAt K mg "is_beyond" (top 83) f83)
  (D84:DefAt K mg "run" (top 84) f84)
  (D85:DefAt K mg "run_on_each" (top 85) f85)
  (D93:DefAt K mg "read_several" (top 93) f93)
  (D94:DefAt K mg "read_step" (top 94) f94)
  (D95:DefAt K mg "read_program" (top 95) f95)
  (D96:DefAt K mg "read_condition" (top 96) f96)
  (D97:DefAt K mg "read_way" (top 97) f97)
  (D98:DefAt K mg "read_others" (top 98) f98)
  (D99:DefAt K mg "read_conditions" (top 99) f99)
  (D100:DefAt K mg "read_turnings" (top 100) f100)
  (D101:DefAt K mg "read_ways" (top 101) f101)
  (D102:DefAt K mg "read_relation" (top 102) f102)
  (D103:DefAt K mg "read_whole" (top 103) f103)
  (D108:DefAt K mg "verdict" (top 108) f108)
  (D110:DefAt K mg "held_relations" (top 110) f110)
  (D112:DefAt K mg "step_as_numbers" (top 112) f112)
  (D113:DefAt K mg "program_as_numbers" (top 113) f113)
  (D114:DefAt K mg "condition_as_numbers" (top 114) f114)
  (D115:DefAt K mg "relation_as_numbers" (top 115) f115)
  (D120:DefAt K mg "inputs_tried" (top 120) f120)
  (D121:DefAt K mg "relation_numbered" (top 121) f121)
  (D122:DefAt K mg "other_numbered" (top 122) f122)
  (D123:DefAt K mg "found_now" (top 123) f123)
  (D124:DefAt K mg "strongest_now" (top 124) f124)
  (D125:DefAt K mg "with_count" (top 125) f125)
  (D126:DefAt K mg "one_if" (top 126) f126)
  (D127:DefAt K mg "answer_program" (top 127) f127)
  (D128:DefAt K mg "answer_bound" (top 128) f128)
  (D129:DefAt K mg "answer_family" (top 129) f129)
  (D130:DefAt K mg "answer_others" (top 130) f130)
  (D131:DefAt K mg "answer_held" (top 131) f131)
  (D132:DefAt K mg "answer_found" (top 132) f132)
  (D133:DefAt K mg "answer_strongest" (top 133) f133)
  (D134:DefAt K mg "answer_relation" (top 134) f134)
  (D135:DefAt K mg "answer_says" (top 135) f135)
  (D136:DefAt K mg "answer_follows" (top 136) f136)
  (D137:DefAt K mg "answer_by" (top 137) f137)
  (D138:DefAt K mg "missed_of" (top 138) f138)
  (D139:DefAt K mg "answer_least" (top 139) f139)
  (D141:DefAt K mg "answer_or_refusal" (top 141) f141)
  (BCB:zD5 K mg CB fB0)
  (MfB0:∃fd,Fun K "__init__" "Bound.__init__" (zBk (top 10) 0) fB0 fd)
  (BCC:zCw K mg CC fC0)
  (MfC0:∃fd,Fun K "__init__" "Call.__init__" (zBk (top 17) 0) fC0 fd)
  (BCR:zGy K mg CR fR0)
  (MfR0:∃fd,Fun K "__init__" "Relation.__init__" (zBk (top 20) 0) fR0 fd)
  (BCF:zJc K mg CF fF0)
  (MfF0:∃fd,Fun K "__init__" "Family.__init__" (zBk (top 42) 0) fF0 fd)
  (BCD:zBw K mg CD rI rD rN rW rR)
  (MrI:∃fd,Fun K "__init__" "Reader.__init__" (zBk (top 92) 0) rI fd)
  (MrD:∃fd,Fun K "is_done" "Reader.is_done" (zBk (top 92) 1) rD fd)
  (MrN:∃fd,Fun K "take_number" "Reader.take_number" (zBk (top 92) 2) rN fd)
  (MrW:∃fd,Fun K "take_within" "Reader.take_within" (zBk (top 92) 3) rW fd)
  (MrR:∃fd,Fun K "take_row" "Reader.take_row" (zBk (top 92) 4) rR fd)
  (BCT:zB6 K mg CT tI tL tR tF tV tH tA)
  (MtI:∃fd,Fun K "__init__" "Trial.__init__" (zBk (top 109) 0) tI fd)
  (MtL:∃fd,Fun K "left_sides" "Trial.left_sides" (zBk (top 109) 1) tL fd)
  (MtR:∃fd,Fun K "right_sides" "Trial.right_sides" (zBk (top 109) 2) tR fd)
  (MtF:∃fd,Fun K "fitting" "Trial.fitting" (zBk (top 109) 3) tF fd)
  (MtV:∃fd,Fun K "verdicts" "Trial.verdicts" (zBk (top 109) 4) tV fd)
  (MtH:∃fd,Fun K "holds" "Trial.holds" (zBk (top 109) 5) tH fd)
  (MtA:∃fd,Fun K "holds_all" "Trial.holds_all" (zBk (top 109) 6) tA fd)
  (BCO:zB3 K mg CO fO0)
  (MfO0:∃fd,Fun K "__init__" "Told.__init__" (zBk (top 119) 0) fO0 fd)
  (EXN:zCr K mg "NotAsTold" XN)
  (EXY:zCr K mg "NoSuchRelation" XY)
  (EXP:zCr K mg "NoSuchProgram" XP)
  (EXZ:zCr K mg "TooManyStrongest" XZ)
  (EXX:zCr K mg "TooManyInputs" XX)
  (nd:[XN,XY,XP,XZ,XX].Nodup)
  (c_GREATEST_LENGTH:zDc mg "GREATEST_LENGTH" 8)
  (c_FARTHEST_NUMBER:zDc mg "FARTHEST_NUMBER" 99)
  (c_MOST_INPUTS:zDc mg "MOST_INPUTS" 1500)
  (c_CONDITION_ANY:zDc mg "CONDITION_ANY" 0)
  (c_CONDITION_HAS_NUMBERS:zDc mg "CONDITION_HAS_NUMBERS" 1)
  (c_CONDITION_WITH_COUNT:zDc mg "CONDITION_WITH_COUNT" 5)
  (c_GREATEST_COUNT:zDc mg "GREATEST_COUNT" 9)
  (c_MOST_NUMBERS:zDc mg "MOST_NUMBERS" 40)
  (c_FARTHEST:zDc mg "FARTHEST" 1000000)
  (c_MOST_STEPS:zDc mg "MOST_STEPS" 8)
  (c_MOST_OTHERS:zDc mg "MOST_OTHERS" 8)
  (c_MOST_CONDITIONS:zDc mg "MOST_CONDITIONS" 3)
  (c_MOST_TURNINGS:zDc mg "MOST_TURNINGS" 4)
  (c_MOST_WAYS:zDc mg "MOST_WAYS" 7)
  (c_KEPT:zDc mg "KEPT" 0)
  (c_BROKEN:zDc mg "BROKEN" 1)
  (c_OFF:zDc mg "OFF" 2)
  (c_MOST_INPUTS_TRIED:zDc mg "MOST_INPUTS_TRIED" 150)
  (c_MOST_STRONGEST:zDc mg "MOST_STRONGEST" 10)
  (Bl:Blt mg)
  (gaS:mg "STEPS" =some (.ref aS))
  (taS:zB8 K aS [.ref f63,.ref f64,.ref f65,.ref f66,.ref f67,.ref f68,.ref f69,.ref f70,.ref f71,.ref f72,.ref f73,.ref f74,.ref f75,.ref f76,.ref f77,.ref f78,.ref f79,.ref f80])
  (gaC:mg "CONDITIONS" =some (.ref aC))
  (taC:zB8 K aC [.ref f21,.ref f22,.ref f23,.ref f24,.ref f25,.ref f26])
  (gaW:mg "WAYS" =some (.ref aW))
  (taW:zB8 K aW [.ref f32,.ref f33,.ref f34,.ref f35,.ref f36,.ref f37,.ref f38])
  (gaA:mg "ANSWERS" =some (.ref aA))
  (taA:zB8 K aA [.ref f127,.ref f128,.ref f129,.ref f130,.ref f131,.ref f132,.ref f133,.ref f134,.ref f135,.ref f136,.ref f137,.ref f139])
  (gaV:mg "STEP_VALUES" =some (.ref aV))
  (raV:K.lookup aV=some ⟨.type "tuple",oV,.seq #[.ref v0,.ref v1,.ref v2,.none,.none,.none,.ref v6,.ref v7,.ref v8,.ref v9,.none,.none,.none,.none,.none,.none,.none,.none] nV,sV⟩)
  (tv0:zB8 K v0 [.int (-99),.int 99])
  (tv1:zB8 K v1 [.int (-99),.int 99])
  (tv2:zB8 K v2 [.int 1,.int 9])
  (tv6:zB8 K v6 [.int 0,.int 9])
  (tv7:zB8 K v7 [.int 0,.int 9])
  (tv8:zB8 K v8 [.int 0,.int 9])
  (tv9:zB8 K v9 [.int (-99),.int 99])
  (gaH:mg "SHAPES" =some (.ref aH))
  (raH:K.lookup aH=some ⟨.type "tuple",oH,.seq #[.ref h0,.ref h1,.ref h2,.ref h3,.ref h4,.ref h5,.ref h6,.ref h7,.ref h8,.ref h9,.ref h10,.ref h11] nH,sH⟩)
  (th0:zB8 K h0 [.int 0,.int 1])
  (th1:zB8 K h1 [.int 3,.int 0])
  (th2:zB8 K h2 [.int 0,.int 4])
  (th3:zB8 K h3 [.int 0,.int 1])
  (th4:zB8 K h4 [.int 0,.int 1])
  (th5:zB8 K h5 [.int 0,.int 0])
  (th6:zB8 K h6 [.int 0,.int 0])
  (th7:zB8 K h7 [.int 1,.int 0])
  (th8:zB8 K h8 [.int 2,.int 0])
  (th9:zB8 K h9 [.int 1,.int 1])
  (th10:zB8 K h10 [.int 2,.int 0])
  (th11:zB8 K h11 [.int 0,.int 0])
  (gaF:mg "WAYS_THAT_FOLLOW" =some (.ref aF))
  (raF:K.lookup aF=some ⟨.type "tuple",oF,.seq #[.ref w0,.ref w1,.ref w2,.ref w3,.ref w4,.ref w5,.ref w6] nF,sF⟩)
  (tw0:zB8 K w0 [.int 0,.int 1,.int 2,.int 3,.int 4,.int 5,.int 6])
  (tw1:zB8 K w1 [.int 1,.int 2,.int 6])
  (tw2:zB8 K w2 [.int 2])
  (tw3:zB8 K w3 [.int 3,.int 6])
  (tw4:zB8 K w4 [.int 4,.int 6])
  (tw5:zB8 K w5 [.int 5])
  (tw6:zB8 K w6 [.int 6])
  (base:Heap):FnOk P w K mg base (CXe P w) 12 f142 fd ["calls"] (zL6 K):=by
 have qBI:=ok7 (P:=P) (w:=w) (base:=base) MfB0 BCB
 have q11:=ok8 (P:=P) (w:=w) (base:=base) D11 Bl BCB
 have q12:=ok9 D12 BCB EXN c_GREATEST_LENGTH c_FARTHEST_NUMBER c_MOST_INPUTS qBI D11.mg q11
 have q13:=yD7 (P:=P) (w:=w) (base:=base) D13 Bl BCB
 have q14:=yD8 D14 Bl BCB D13.mg q13
 have q63:=yCq (P:=P) (w:=w) (base:=base) D63
 have q64:=yCr (P:=P) (w:=w) (base:=base) D64
 have q65:=yCs (P:=P) (w:=w) (base:=base) D65
 have q66:=yCt (P:=P) (w:=w) (base:=base) D66 Bl
 have q67:=yCv (P:=P) (w:=w) (base:=base) D67 Bl
 have q68:=yDe (P:=P) (w:=w) (base:=base) D68
 have q69:=yCw (P:=P) (w:=w) (base:=base) D69 Bl
 have q70:=yCy (P:=P) (w:=w) (base:=base) D70
 have q71:=yC0 (P:=P) (w:=w) (base:=base) D71
 have q72:=yC1 (P:=P) (w:=w) (base:=base) D72
 have q73:=yDf (P:=P) (w:=w) (base:=base) D73 Bl
 have q74:=yC3 (P:=P) (w:=w) (base:=base) D74 Bl
 have q75:=yC5 (P:=P) (w:=w) (base:=base) D75 Bl
 have q76:=yC7 (P:=P) (w:=w) (base:=base) D76 Bl
 have q77:=yC9 (P:=P) (w:=w) (base:=base) D77 Bl
 have q78:=yDg (P:=P) (w:=w) (base:=base) D78 Bl
 have q79:=yDa (P:=P) (w:=w) (base:=base) D79
 have q80:=yDc (P:=P) (w:=w) (base:=base) D80
 have qS:zQf P w K mg base aS [f63,f64,f65,f66,f67,f68,f69,f70,f71,f72,f73,f74,f75,f76,f77,f78,f79,f80]:=⟨gaS,taS,rfl,fun i f h=>by
  match i,h with
  | 0,h=>cases h;exact q63
  | 1,h=>cases h;exact q64
  | 2,h=>cases h;exact q65
  | 3,h=>cases h;exact q66
  | 4,h=>cases h;exact q67
  | 5,h=>cases h;exact q68
  | 6,h=>cases h;exact q69
  | 7,h=>cases h;exact q70
  | 8,h=>cases h;exact q71
  | 9,h=>cases h;exact q72
  | 10,h=>cases h;exact q73
  | 11,h=>cases h;exact q74
  | 12,h=>cases h;exact q75
  | 13,h=>cases h;exact q76
  | 14,h=>cases h;exact q77
  | 15,h=>cases h;exact q78
  | 16,h=>cases h;exact q79
  | 17,h=>cases h;exact q80
  | (n+18),h=>simp at h⟩
 have q83:=yDi (P:=P) (w:=w) (base:=base) D83 Bl c_MOST_NUMBERS c_FARTHEST
 have q84:=yDj D84 qS D83.mg q83
 have q85:=yDk D85 D84.mg q84
 have q21:=yDm (P:=P) (w:=w) (base:=base) D21
 have q22:=yDo (P:=P) (w:=w) (base:=base) D22 Bl
 have q23:=yDq (P:=P) (w:=w) (base:=base) D23 Bl
 have q24:=yDs (P:=P) (w:=w) (base:=base) D24 Bl
 have q25:=yEr (P:=P) (w:=w) (base:=base) D25 Bl
 have q26:=yDu (P:=P) (w:=w) (base:=base) D26 Bl
 have qC:zQh P w K mg base aC [f21,f22,f23,f24,f25,f26]:=⟨gaC,taC,rfl,fun i f h=>by
  match i,h with
  | 0,h=>cases h;exact q21
  | 1,h=>cases h;exact q22
  | 2,h=>cases h;exact q23
  | 3,h=>cases h;exact q24
  | 4,h=>cases h;exact q25
  | 5,h=>cases h;exact q26
  | (n+6),h=>simp at h⟩
 have q32:=yDw (P:=P) (w:=w) (base:=base) D32
 have q33:=yDy (P:=P) (w:=w) (base:=base) D33 Bl
 have q34:=yEt (P:=P) (w:=w) (base:=base) D34 Bl
 have q35:=yDz (P:=P) (w:=w) (base:=base) D35 Bl
 have q36:=yD1 D36 D35.mg q35
 have q37:=yD3 (P:=P) (w:=w) (base:=base) D37 Bl
 have q38:=yD5 (P:=P) (w:=w) (base:=base) D38 Bl
 have qW:zTf P w K mg base aW [f32,f33,f34,f35,f36,f37,f38]:=⟨gaW,taW,rfl,fun i f h=>by
  match i,h with
  | 0,h=>cases h;exact q32.mono (by decide)
  | 1,h=>cases h;exact q33.mono (by decide)
  | 2,h=>cases h;exact q34.mono (by decide)
  | 3,h=>cases h;exact q35.mono (by decide)
  | 4,h=>cases h;exact q36
  | 5,h=>cases h;exact q37.mono (by decide)
  | 6,h=>cases h;exact q38.mono (by decide)
  | (n+7),h=>simp at h⟩
 have q40:=yD6 D40 qC
 have qrI:=zY2 (P:=P) (w:=w) (base:=base) MrI BCD
 have qrD:=zY4 (P:=P) (w:=w) (base:=base) MrD Bl BCD
 have qrN:=zY5 MrN BCD EXN qrD
 have qrW:=zY6 MrW BCD EXN qrN
 have qrR:=zY7 MrR Bl BCD qrN
 have taV:zB8 K aV [.ref v0,.ref v1,.ref v2,.non,.non,.non,.ref v6,.ref v7,.ref v8,.ref v9,.non,.non,.non,.non,.non,.non,.non,.non]:=tup_mk raV (show 18<=sizeLine by decide) (by repeat (first | exact .nil | refine .cons rfl ?_))
 have taH:zB8 K aH [.ref h0,.ref h1,.ref h2,.ref h3,.ref h4,.ref h5,.ref h6,.ref h7,.ref h8,.ref h9,.ref h10,.ref h11]:=tup_mk raH (show 12<=sizeLine by decide) (by repeat (first | exact .nil | refine .cons rfl ?_))
 have taF:zB8 K aF [.ref w0,.ref w1,.ref w2,.ref w3,.ref w4,.ref w5,.ref w6]:=tup_mk raF (show 7<=sizeLine by decide) (by repeat (first | exact .nil | refine .cons rfl ?_))
 have qV:zQj K mg aV [V.ref v0,V.ref v1,V.ref v2,V.non,V.non,V.non,V.ref v6,V.ref v7,V.ref v8,V.ref v9,V.non,V.non,V.non,V.non,V.non,V.non,V.non,V.non]:=⟨gaV,taV,rfl,fun i v h=>by
  match i,h with
  | 0,h=>cases h;exact⟨v0,rfl,tv0⟩
  | 1,h=>cases h;exact⟨v1,rfl,tv1⟩
  | 2,h=>cases h;exact⟨v2,rfl,tv2⟩
  | 3,h=>cases h;exact rfl
  | 4,h=>cases h;exact rfl
  | 5,h=>cases h;exact rfl
  | 6,h=>cases h;exact⟨v6,rfl,tv6⟩
  | 7,h=>cases h;exact⟨v7,rfl,tv7⟩
  | 8,h=>cases h;exact⟨v8,rfl,tv8⟩
  | 9,h=>cases h;exact⟨v9,rfl,tv9⟩
  | 10,h=>cases h;exact rfl
  | 11,h=>cases h;exact rfl
  | 12,h=>cases h;exact rfl
  | 13,h=>cases h;exact rfl
  | 14,h=>cases h;exact rfl
  | 15,h=>cases h;exact rfl
  | 16,h=>cases h;exact rfl
  | 17,h=>cases h;exact rfl
  | (n+18),h=>simp at h⟩
 have q94:=yD9 D94 Bl BCD qrW gaS qS.tup qS.len qV
 have q93s:=zWg (m:=8) (enc:=zEl) (by decide) (by decide) D93 Bl BCD EXN qrW q94
 have q95:=yEe D95 Bl c_MOST_STEPS D93.mg D94.mg q93s
 have q96:=yEa D96 Bl BCD qrW gaC qC.tup qC.len c_CONDITION_WITH_COUNT c_GREATEST_COUNT
 have q97:=yEc D97 Bl BCD qrW gaW qW.tup qW.len
 have q98:=yEg D98 c_MOST_OTHERS D93.mg D95.mg (zWg (m:=8) (enc:=zBt) (by decide) (by decide) D93 Bl BCD EXN qrW q95)
 have q99:=yEi D99 c_MOST_CONDITIONS D93.mg D96.mg (zWg (m:=3) (enc:=zDq) (by decide) (by decide) D93 Bl BCD EXN qrW q96)
 have q100:=yEk D100 c_MOST_TURNINGS D93.mg D95.mg (zWg (m:=4) (enc:=zBt) (by decide) (by decide) D93 Bl BCD EXN qrW q95)
 have q101:=yEm D101 c_MOST_WAYS D93.mg D97.mg (zWg (m:=7) (enc:=zO7) (by decide) (by decide) D93 Bl BCD EXN qrW q97)
 have qFI:=yEo (P:=P) (w:=w) (base:=base) MfF0 BCF
 have qRI:=zZa (P:=P) (w:=w) (base:=base) MfR0 BCR
 have q102:=yEp D102 BCR qRI D96.mg D95.mg D97.mg q96 q95 q97
 have q43:=yEu (P:=P) (w:=w) (base:=base) D43 Bl BCF
 have q44:=zZc D44 Bl BCF BCR qRI
 have qtI:=zZe MtI BCT D85.mg q85
 have qtL:=zZi MtL BCT D85.mg q85
 have qtR:=zZj MtR BCT D85.mg q85
 have qtF:=zZk MtF BCT D40.mg q40
 have q108:=yEy (P:=P) (w:=w) (base:=base) D108 c_KEPT c_BROKEN c_OFF
 have qtV:=zZm MtV Bl BCT BCR qW qtF qtL qtR D108.mg q108
 have qtH:=zZn MtH BCT c_KEPT c_BROKEN qtV
 have qtA:=zZo MtA BCT qtH
 have q110:=yEz D110 Bl BCT qtI qtH D43.mg q43 D44.mg q44
 have q47:=zZs (P:=P) (w:=w) (base:=base) D47 c_CONDITION_ANY c_CONDITION_HAS_NUMBERS c_CONDITION_WITH_COUNT
 have q48:=zZt D48 D47.mg q47
 have q49:=zZv (P:=P) (w:=w) (base:=base) D49 BCR
 have qF:zWl K mg aF [w0,w1,w2,w3,w4,w5,w6]:=⟨gaF,taF,rfl,fun i a h=>by
  match i,h with
  | 0,h=>cases h;exact tw0
  | 1,h=>cases h;exact tw1
  | 2,h=>cases h;exact tw2
  | 3,h=>cases h;exact tw3
  | 4,h=>cases h;exact tw4
  | 5,h=>cases h;exact tw5
  | 6,h=>cases h;exact tw6
  | (n+7),h=>simp at h⟩
 have q50:=zZy D50 BCR qF D49.mg q49 D48.mg q48
 have q51:=zZz D51 D50.mg q50
 have q52:=zZ1 D52 D51.mg q51
 have q53:=zZ3 (CF:=CF) D53 D44.mg q44 D52.mg q52
 have q55:=zZ4 (P:=P) (w:=w) (base:=base) D55
 have q56:=zZ5 D56 Bl D55.mg q55
 have q57:=zZ7 (P:=P) (w:=w) (base:=base) D57 Bl
 have q58:=zZ9 D58 Bl D57.mg q57
 have q59:=yAa D59 D56.mg q56 D58.mg q58
 have q112:=zWq (P:=P) (w:=w) (base:=base) D112 qV
 have q113:=zWs D113 Bl D112.mg q112
 have q114:=zWv (P:=P) (w:=w) (base:=base) D114 c_CONDITION_WITH_COUNT
 have q115:=zWx D115 BCR D114.mg q114 D113.mg q113
 have qCI:=yE3 (P:=P) (w:=w) (base:=base) MfC0 BCC
 have qH:zN5 K mg aH [h0,h1,h2,h3,h4,h5,h6,h7,h8,h9,h10,h11]:=⟨gaH,taH,rfl,fun i a h=>by
  match i,h with
  | 0,h=>cases h;exact⟨0,1,by decide,th0⟩
  | 1,h=>cases h;exact⟨3,0,by decide,th1⟩
  | 2,h=>cases h;exact⟨0,4,by decide,th2⟩
  | 3,h=>cases h;exact⟨0,1,by decide,th3⟩
  | 4,h=>cases h;exact⟨0,1,by decide,th4⟩
  | 5,h=>cases h;exact⟨0,0,by decide,th5⟩
  | 6,h=>cases h;exact⟨0,0,by decide,th6⟩
  | 7,h=>cases h;exact⟨1,0,by decide,th7⟩
  | 8,h=>cases h;exact⟨2,0,by decide,th8⟩
  | 9,h=>cases h;exact⟨1,1,by decide,th9⟩
  | 10,h=>cases h;exact⟨2,0,by decide,th10⟩
  | 11,h=>cases h;exact⟨0,0,by decide,th11⟩
  | (n+12),h=>simp at h⟩
 have q18:=yE4 D18 Bl BCD BCC qH qCI qrN qrR
 have q120:=yFc (CB:=CB) D120 BCO EXX c_MOST_INPUTS_TRIED D14.mg q14 D11.mg q11
 have q121:=zW1 (CF:=CF) D121 BCO EXY D43.mg q43 D44.mg q44
 have q122:=zW5 (P:=P) (w:=w) (base:=base) D122 Bl BCO EXP
 have q123:=zW8 D123 BCO D110.mg q110 D120.mg q120
 have q124:=zXb D124 BCO D53.mg q53 D123.mg q123
 have q125:=zXe (P:=P) (w:=w) (base:=base) D125 Bl
 have q126:=zXh (P:=P) (w:=w) (base:=base) D126
 have wq95:=(zU9 (k1:=6) (Res:=zH5 zBt) (by decide) (fun _ _ _ _ e h=>Dm.same e h) D103 BCD EXN qrI qrD q95).mono (k:=9) (by decide)
 have wq98:=(zU9 (k1:=8) (Res:=zH5 fun(xs:List zBc)=> .list (xs.map zBt)) (by decide) (fun _ _ _ _ e h=>Dm.same e h) D103 BCD EXN qrI qrD q98).mono (k:=9) (by decide)
 have wq99:=(zU9 (k1:=6) (Res:=zH5 fun(xs:List zDd)=> .list (xs.map zDq)) (by decide) (fun _ _ _ _ e h=>Dm.same e h) D103 BCD EXN qrI qrD q99).mono (k:=9) (by decide)
 have wq100:=(zU9 (k1:=8) (Res:=zH5 fun(xs:List zBc)=> .list (xs.map zBt)) (by decide) (fun _ _ _ _ e h=>Dm.same e h) D103 BCD EXN qrI qrD q100).mono (k:=9) (by decide)
 have wq101:=(zU9 (k1:=6) (Res:=zH5 fun(xs:List zO6)=> .list (xs.map zO7)) (by decide) (fun _ _ _ _ e h=>Dm.same e h) D103 BCD EXN qrI qrD q101).mono (k:=9) (by decide)
 have wq102:=(zU9 (k1:=7) (Res:=fun(r:VametBase.Relation) A v=>RelAt CR A v r) (by decide) (fun _ _ _ _ e h=>RelAt.same h e) D103 BCD EXN qrI qrD q102).mono (k:=9) (by decide)
 have m1:(XN,(-1:Int))∈zG1 XN XY XP XZ XX:=by unfold zG1;simp
 have m2:(XY,(-2:Int))∈zG1 XN XY XP XZ XX:=by unfold zG1;simp
 have m3:(XP,(-3:Int))∈zG1 XN XY XP XZ XX:=by unfold zG1;simp
 have m6:(XZ,(-6:Int))∈zG1 XN XY XP XZ XX:=by unfold zG1;simp
 have m7:(XX,(-7:Int))∈zG1 XN XY XP XZ XX:=by unfold zG1;simp
 have q127:=yE6 (CB:=CB) (CF:=CF) (Ref:=zG1 XN XY XP XZ XX) D127 Bl BCO BCC (CN:=XN) m1 D103.mg D95.mg wq95
 have q128:=yFa (CF:=CF) (Ref:=zG1 XN XY XP XZ XX) D128 BCO BCC (CN:=XN) m1 D12.mg q12 D11.mg q11
 have q129:=yFe (CB:=CB) (Ref:=zG1 XN XY XP XZ XX) D129 BCO BCC BCF (CN:=XN) m1 D103.mg D99.mg D100.mg D101.mg D43.mg wq99 wq100 wq101 qFI q43
 have q130:=yE8 (CB:=CB) (CF:=CF) (Ref:=zG1 XN XY XP XZ XX) D130 Bl BCO BCC (CN:=XN) m1 D103.mg D98.mg wq98
 have q131:=yFd (CF:=CF) (Ref:=zG1 XN XY XP XZ XX) D131 BCO BCC BCT (CN:=XN) m1 (CX:=XX) m7 c_KEPT c_BROKEN c_OFF D103.mg D102.mg wq102 qtI qtV D120.mg q120
 have q132:=zXm (CC:=CC) (Ref:=zG1 XN XY XP XZ XX) D132 (CX:=XX) m7 D125.mg q125 D123.mg q123
 have q133:=zXp (CC:=CC) (Ref:=zG1 XN XY XP XZ XX) D133 (CX:=XX) m7 D125.mg q125 D124.mg q124
 have q134:=zXs (CB:=CB) (Ref:=zG1 XN XY XP XZ XX) D134 BCC (CY:=XY) m2 D115.mg q115 D121.mg q121
 have q135:=zXu (CB:=CB) (Ref:=zG1 XN XY XP XZ XX) D135 BCC (CY:=XY) m2 D126.mg q126 D50.mg q50 D121.mg q121
 have q136:=zXx (Ref:=zG1 XN XY XP XZ XX) D136 Bl BCO BCC BCT (CY:=XY) m2 (CX:=XX) m7 D121.mg q121 qtI qtH qtA D120.mg q120
 have q137:=zXw (Ref:=zG1 XN XY XP XZ XX) D137 BCO BCC BCT (CY:=XY) m2 (CP:=XP) m3 (CX:=XX) m7 D126.mg q126 D121.mg q121 D122.mg q122 qtI qtH D120.mg q120
 have q138:=zXy D138 BCO BCT qtI qtH D44.mg q44 D120.mg q120
 have q139:=zXz (CC:=CC) (Ref:=zG1 XN XY XP XZ XX) D139 Bl BCO EXZ c_MOST_STRONGEST (CZ:=XZ) m6 (CX:=XX) m7 D124.mg q124 D138.mg q138 D59.mg q59 D125.mg q125
 have qA:zX0 P w K mg base CB CF CO CC (zG1 XN XY XP XZ XX) aA [f127,f128,f129,f130,f131,f132,f133,f134,f135,f136,f137,f139] 12:=⟨gaA,taA,rfl,fun i f h=>by
  match i,h with
  | 0,h=>cases h;exact q127
  | 1,h=>cases h;exact q128
  | 2,h=>cases h;exact q129
  | 3,h=>cases h;exact q130
  | 4,h=>cases h;exact q131
  | 5,h=>cases h;exact q132
  | 6,h=>cases h;exact q133
  | 7,h=>cases h;exact q134
  | 8,h=>cases h;exact q135
  | 9,h=>cases h;exact q136
  | 10,h=>cases h;exact q137
  | 11,h=>cases h;exact q139
  | (n+12),h=>simp at h⟩
 have q141:=yAq D141 BCC EXN EXY EXP EXZ EXX nd qA
 have qOI:=yFg MfO0 BCO BCB BCF qBI qFI
 exact yAo (ka:=11) Fa Bl BCD BCO (by decide) qrI qrD qOI D18.mg q18 D141.mg q141
end Rf
namespace PySem.W.Fast
def tw2920702395753229367:=Nat
def tw1829059282759818507:=Nat
def tw12810193809847179428:=Nat
def tw14433337610431311409:=Nat
def tw16913377627131788994:=Nat
def tw1789972184155767297:=Nat
def tw3624697821369675861:=Nat
def tw16392673725319623446:=Nat
def tw2366812519267840669:=Nat
def tw18098457401937093672:=Nat
def tw486280045034283132:=Nat
def tw1202934423944539801:=Nat
def tw15203474203125632661:=Nat
def tw4086447857898319391:=Nat
def tw12224185268585593720:=Nat
def tw16420274025607431645:=Nat
def tw1022978199003667623:=Nat
def tw5306544497199524601:=Nat
def tw5601903684263185151:=Nat
def tw3660340646421010892:=Nat
def tw3945740770683070279:=Nat
def tw5792594857221530365:=Nat
def tw3820851680813265003:=Nat
def tw2618356274925209596:=Nat
def tw2782736179347286176:=Nat
def tw15944392156827965433:=Nat
def tw7122830389938099747:=Nat
def tw9081828223591846888:=Nat
def tw5771991077510207244:=Nat
def tw7919918075293874768:=Nat
def tw10164169111076497639:=Nat
def tw13329530596235886678:=Nat
def tw2721361485718231934:=Nat
def tw12410629778328908559:=Nat
def tw15149935113407266850:=Nat
def tw5109235183060122288:=Nat
def tw2392384457953450488:=Nat
def tw15590785759243905191:=Nat
def tw2977163560824774244:=Nat
def tw6014139258525251219:=Nat
def tw11302840088803825687:=Nat
def tw9806035366683650860:=Nat
def tw11828880995111943941:=Nat
def tw13520283075808533562:=Nat
def tw13268364887600095670:=Nat
def tw3646749526022736949:=Nat
def tw1150808728830347660:=Nat
def tw12454127182337600362:=Nat
def tw7364190153551263723:=Nat
def tw6803233527210369534:=Nat
def tw6447483428068833712:=Nat
def tw10416751125177751617:=Nat
def tw4805163835196230996:=Nat
def tw13495763543183774619:=Nat
def tw14221266952437081565:=Nat
def tw15382882186934806017:=Nat
def tw7845950548891516783:=Nat
def tw9919478732904351478:=Nat
def tw2740170090768870158:=Nat
def tw18215997544572998253:=Nat
def tw893624577025710392:=Nat
def tw13586500832768676759:=Nat
def tw9598049602751256259:=Nat
def tw3786278305691871137:=Nat
def tw12561012810203946791:=Nat
def tw10649925461632026279:=Nat
def tw6853803834692398470:=Nat
def tw1038953299409972038:=Nat
def tw15160030063895983306:=Nat
def tw15162011839355988919:=Nat
def tw6443762791846601216:=Nat
def tw12630504563825727946:=Nat
def tw2605136210088053842:=Nat
def tw10460301416517041436:=Nat
def tw7961990068638811241:=Nat
def tw15079718743337715082:=Nat
def tw7974708311364892004:=Nat
def tw18296006756271877549:=Nat
def tw9381456876944672313:=Nat
def tw17111796040575807380:=Nat
def tw12443394301989711314:=Nat
def tw7733767346421792976:=Nat
def tw6697347756229072519:=Nat
def tw11951429525990404072:=Nat
def tw782184517080023651:=Nat
def tw7545257281545036750:=Nat
def tw1567969730791388677:=Nat
def tw7258473281099402231:=Nat
def tw7017166113068887956:=Nat
def tw13939780493904241289:=Nat
def tw522297134181807223:=Nat
def tw15920562322688391478:=Nat
def tw10724035654798337053:=Nat
def tw11056486239455622402:=Nat
def tw8991007551917386224:=Nat
def tw6906513781479641273:=Nat
def tw10551210595213939124:=Nat
def tw11865905930884071777:=Nat
def tw11972957788636835035:=Nat
def tw16156860561547657813:=Nat
def tw2426686697587931214:=Nat
def tw8527745888839614708:=Nat
def tw8947462237834233896:=Nat
def tw379461542374863204:=Nat
def tw2979278425616159294:=Nat
def tw9535228061864381177:=Nat
def tw9259779310380449930:=Nat
def tw13826422333393733700:=Nat
def tw9650457525360928212:=Nat
def tw4844375017769571614:=Nat
def tw6491780464318289157:=Nat
def tw3220195192661715115:=Nat
def tw6436970065729734705:=Nat
def tw15050528005162185358:=Nat
def tw7232752704322943694:=Nat
def tw15669153975389455552:=Nat
def tw11587786983931425289:=Nat
def tw5562846966036044821:=Nat
def tw16086793101468840041:=Nat
def tw9139817217311869984:=Nat
def tw7698607991416267639:=Nat
def tw10824317401299804975:=Nat
def tw3960427443235927891:=Nat
def tw7010522242662806602:=Nat
def tw1535500620543757815:=Nat
def tw14012158089270145456:=Nat
def tw13188321975013766487:=Nat
def tw7313569285495571839:=Nat
def tw9848841511699480621:=Nat
def tw8999710507017355594:=Nat
def tw2672709294149345762:=Nat
def tw2879385413326426125:=Nat
def tw18021922311253542735:=Nat
def tw5691783817489995948:=Nat
def tw8716392665801900608:=Nat
def tw2176783251976690556:=Nat
def tw4505791103304716748:=Nat
def tw5093790260280047554:=Nat
def tw17532949050903395860:=Nat
def tw10049535952559252866:=Nat
def tw4089735527873030101:=Nat
def tw2412456945994494717:=Nat
def tw9450929947747946281:=Nat
def tw17849702966369894361:=Nat
def tw6552578464994210321:=Nat
def tw4964902955090952217:=Nat
def tw7979840428394891138:=Nat
def tw8798481494733833582:=Nat
def tw7446472059182570531:=Nat
def tw12346106744583543220:=Nat
def tw5051810830218494219:=Nat
def tw1421417634439751425:=Nat
def tw2140352187740153611:=Nat
def tw16310254038383708410:=Nat
def tw1425169419765572035:=Nat
def tw17482574826297280389:=Nat
def tw11865179439943786236:=Nat
def tw14556613863058547037:=Nat
def tw10293139030694740071:=Nat
def tw14415685576967540395:=Nat
def tw6647568197239631236:=Nat
def tw18369643623191450299:=Nat
def tw1297628089644052855:=Nat
def tw9928409878205402530:=Nat
def tw13368954816211158692:=Nat
def tw3292285724407744013:=Nat
def tw15105466471959495936:=Nat
def tw15800111111406886964:=Nat
def tw13467130635575616701:=Nat
def tw1257805433254128667:=Nat
def tw11769766484591869205:=Nat
def tw4994558009190217696:=Nat
def tw4079393486490594304:=Nat
def tw15190573059456416018:=Nat
def tw8971220388391758327:=Nat
def tw10139980312079155397:=Nat
def tw13019958314155486329:=Nat
def tw5007559803867623541:=Nat
def tw11252249732220736984:=Nat
def tw435067072757786594:=Nat
def tw13465774199219405840:=Nat
def tw10602623535492690522:=Nat
def tw12426074131207072284:=Nat
def tw6466002725306303930:=Nat
def tw14541353566190826569:=Nat
def tw8746018670068116110:=Nat
def tw8798368620256027296:=Nat
def tw7206079187879237826:=Nat
def tw12285286261254971198:=Nat
def tw12285248751452076492:=Nat
def tw10789518289647890547:=Nat
def tw11365887766780633012:=Nat
def tw11176829915281793230:=Nat
def tw2300880480773273829:=Nat
def tw16336188711685626955:=Nat
def tw17671119621567880022:=Nat
def tw10636583560502812529:=Nat
def tw9709570317511292088:=Nat
def tw14277159225110313205:=Nat
def tw994273850821399878:=Nat
def tw5227436480298221413:=Nat
def tw3174566341623230356:=Nat
def tw16247326348409032495:=Nat
def tw8014085438717516277:=Nat
def tw16562499550564982272:=Nat
def tw8074995612359741408:=Nat
def tw5693309947696325548:=Nat
def tw14618922222105017112:=Nat
def tw10640393373526654455:=Nat
def tw3551742161523917409:=Nat
def tw3188638676336776389:=Nat
def tw6964900220317402598:=Nat
def tw6015863882087498994:=Nat
def tw5933135212225402950:=Nat
def tw9014866366543429862:=Nat
def tw3376865684247955994:=Nat
def tw3382930291704861246:=Nat
def tw2085729522603009705:=Nat
def tw8193390212457157130:=Nat
def tw17998618348306847965:=Nat
def tw6161939003729058827:=Nat
def tw6328108051803448334:=Nat
def tw361747017411696313:=Nat
def tw5348765062982677785:=Nat
def tw1743770610539629209:=Nat
def tw6282532911485310400:=Nat
def tw1636921272124541312:=Nat
def tw7640667939398597962:=Nat
def tw7579277981010714453:=Nat
def tw16049031674913971279:=Nat
def tw7878931645254340055:=Nat
def tw5015147666962381811:=Nat
def tw11070993856496267062:=Nat
def tw4344292016798899764:=Nat
def tw4587538447450631454:=Nat
def tw3821898648802809126:=Nat
def tw537405802498582177:=Nat
def tw17433930847940582524:=Nat
def tw1866578643979449084:=Nat
def tw17637065094416994081:=Nat
def tw294392610112313326:=Nat
def tw6806434733133573473:=Nat
def tw13775256972254059604:=Nat
def tw8836179251036723732:=Nat
def tw4294789895485738775:=Nat
def tw10169134468082629929:=Nat
def tw3441448101809511321:=Nat
def tw6686549944522533670:=Nat
def tw18067586392313880802:=Nat
def tw8747920005907334739:=Nat
def tw4613924174330366742:=Nat
def tw17079205441256462416:=Nat
def tw14943740101397870286:=Nat
def tw11267221607812577144:=Nat
def tw3462243406032963186:=Nat
def tw12308914010574939938:=Nat
def tw14173463255594166807:=Nat
def tw868093872287961009:=Nat
def tw7589880204466641746:=Nat
def tw8203387255657140309:=Nat
def tw11833237248159733623:=Nat
def tw2958770557955210469:=Nat
def tw7072937871841756089:=Nat
def tw12920490069614932096:=Nat
def tw15436664752055802496:=Nat
def tw18043614567740581319:=Nat
def tw9302303627001195510:=Nat
def tw11570273411788903953:=Nat
def tw3242690243930085026:=Nat
def tw3238971078026745605:=Nat
def tw12722528414333200240:=Nat
def tw9353787048181443235:=Nat
def tw2652975297457123835:=Nat
def tw5279100099921281458:=Nat
def tw5176825332465779677:=Nat
def tw1763438943944211395:=Nat
def tw2179780486492661656:=Nat
def tw7852170719312801832:=Nat
def tw744027077116297472:=Nat
def tw3122833449531461006:=Nat
def tw13652806071214554220:=Nat
def tw13912637143930263844:=Nat
def tw8532805770267665489:=Nat
def tw12420339269150120038:=Nat
def tw727546768366175074:=Nat
def tw8733712925699746684:=Nat
def tw818210743132834335:=Nat
def tw5045977055344416347:=Nat
def tw15348546340170774231:=Nat
def tw5809191465438842414:=Nat
def tw1957430497221096007:=Nat
def tw7122289247832257963:=Nat
def tw5918412060494302019:=Nat
def tw688025038453476481:=Nat
def tw17381703878433712938:=Nat
def tw10381635298671043515:=Nat
def tw13983691506071236153:=Nat
def tw5579466546012902161:=Nat
def tw4920867237911232465:=Nat
def tw14640178432898478949:=Nat
def tw2879731356540722631:=Nat
def tw13221146836911526782:=Nat
def tw3634798169513992686:=Nat
def tw417681456852614198:=Nat
def tw15970345189316918532:=Nat
def tw8760100828405233207:=Nat
def tw2145965194899883707:=Nat
def tw4304817520449081468:=Nat
def tw10274986944462976946:=Nat
def tw5438972196923767781:=Nat
def tw3762132323821419924:=Nat
def tw3975810852373123363:=Nat
def tw11837900579735446013:=Nat
def tw4819094926134662993:=Nat
def tw10513190218198146871:=Nat
def tw102187337848524629:=Nat
def tw10527335422294739866:=Nat
def tw3348624743258247066:=Nat
def tw14311321514521266472:=Nat
def tw10854132754361233585:=Nat
def tw12399674847650140714:=Nat
def tw8161286444804780644:=Nat
def tw14796008064547870994:=Nat
def tw12704253683133496982:=Nat
def tw8001907828108467963:=Nat
def tw2795341599750305583:=Nat
def tw9819310991608669615:=Nat
def tw7517392066276287767:=Nat
def tw6672979411043403670:=Nat
def tw11361720251437873733:=Nat
def tw1225153104782079960:=Nat
def tw548669713493865062:=Nat
def tw1834786170876840207:=Nat
def tw11621629214485669599:=Nat
def tw3508651987727519069:=Nat
def tw14476658738872174450:=Nat
def tw10185537739166223331:=Nat
def tw7964667825630842614:=Nat
def tw6185438005566096569:=Nat
def tw6998906193489279907:=Nat
def tw10755853954502910659:=Nat
def tw4017642526759055753:=Nat
def tw10073874521045612646:=Nat
def tw15886365143194074335:=Nat
def tw14117586550489800402:=Nat
def tw1080116259493112695:=Nat
def tw3339704295502070729:=Nat
def tw13659356498764534059:=Nat
def tw146656248201019463:=Nat
def tw15163487034063093619:=Nat
def tw17247269550851781192:=Nat
def tw1388598545315119929:=Nat
def tw6010851701207901364:=Nat
def tw11395345075806295915:=Nat
def tw10032585468087465200:=Nat
def tw10288269749451664197:=Nat
def tw1639194434305536494:=Nat
def tw7126122806513554249:=Nat
def tw913436948082179639:=Nat
def tw8220566551839069470:=Nat
def tw14040078239345906686:=Nat
def tw3353592643119520700:=Nat
def tw6187314406996885237:=Nat
def tw2948058450225567559:=Nat
def tw276187674380018891:=Nat
def tw13297109867611502605:=Nat
def tw601198628149042831:=Nat
def tw10118188561707419171:=Nat
def tw4663111994860853920:=Nat
def tw13853316898323559243:=Nat
def tw14388521203956660657:=Nat
def tw11081984375674074933:=Nat
def tw18083207839838883250:=Nat
def tw4474793109437555992:=Nat
def tw9054212233884640572:=Nat
def tw6558949089357515878:=Nat
def tw180547132068531522:=Nat
def tw11946147253836659895:=Nat
def tw11976054963943757601:=Nat
def tw16535529038341606542:=Nat
def tw13171529386299253589:=Nat
def tw1654009845694034024:=Nat
def tw8148626892374831893:=Nat
def tw1004443396045038954:=Nat
def tw8205018892895190400:=Nat
def tw8490982488736762836:=Nat
def tw16846288904818519869:=Nat
def tw3167129192835361001:=Nat
def tw11925346438656477754:=Nat
def tw6841055680447523414:=Nat
def tw7626107643423538107:=Nat
def tw8711014573958042255:=Nat
def tw6543327099776871105:=Nat
def tw10130205889184434711:=Nat
def tw3224145572311359244:=Nat
def tw1192287748334433955:=Nat
def tw3068788026038223842:=Nat
def tw978329843619875872:=Nat
def tw8537820592132699891:=Nat
def tw8175064525715863309:=Nat
def tw3075931109539939676:=Nat
def tw1064671912900754072:=Nat
def tw676700224128614698:=Nat
def tw5160572758242826552:=Nat
def tw569395057564035169:=Nat
def tw14653162866432742656:=Nat
def tw13173814112994673012:=Nat
def tw18092344350854234982:=Nat
def tw7173659612226640381:=Nat
def tw4794695454645311200:=Nat
def tw17548302025529771446:=Nat
def tw12735466782590850936:=Nat
def tw3807966164271602981:=Nat
def tw15478544608986030136:=Nat
def tw9314427217007614672:=Nat
def tw2632380011075558102:=Nat
def tw103603779315016832:=Nat
def tw13358048601473211854:=Nat
def tw2000123310108064257:=Nat
def tw8293870215944376064:=Nat
def tw10308201301118202213:=Nat
def tw6916038022999105622:=Nat
def tw16982122011051071477:=Nat
def tw13014055356624316482:=Nat
def tw6235763124968684838:=Nat
def tw470948185242089252:=Nat
def tw13142554047642483830:=Nat
def tw8573016579993041811:=Nat
def tw16730648066438624272:=Nat
def tw9669042176350738722:=Nat
def tw12339047473531494126:=Nat
def tw3638441124340272527:=Nat
def tw10752837120458531320:=Nat
def tw13540277613211809265:=Nat
def tw12296783757556569640:=Nat
def tw17035978742288850307:=Nat
def tw13098466637417040697:=Nat
def tw15411661726140863431:=Nat
def tw17354204422119551815:=Nat
def tw12809157000919981348:=Nat
def tw13222144650833964632:=Nat
def tw10814232941907434720:=Nat
def tw2720462595406841770:=Nat
def tw1701380160239055883:=Nat
def tw11137565489773332188:=Nat
def tw3601078790007818528:=Nat
def tw14745051256660004520:=Nat
def tw1482417674484372245:=Nat
def tw2275626237972186345:=Nat
def tw10490968481387242129:=Nat
def tw13759353924764593158:=Nat
def tw4756004908232044364:=Nat
def tw4819136597927398931:=Nat
def tw2680783173681128076:=Nat
def tw17317465177917473111:=Nat
def tw12277469086524139279:=Nat
def tw15429658373970916002:=Nat
def tw11041779337432068353:=Nat
def tw1660700344560684360:=Nat
def tw11791283787425016137:=Nat
def tw1447288774751995141:=Nat
def tw2607141669081799870:=Nat
def tw2797484380512302440:=Nat
def tw9530742330320428876:=Nat
def tw908239663710016426:=Nat
def tw2948622578361703027:=Nat
def tw12602030302517572995:=Nat
def tw9053434788125889137:=Nat
def tw6844993255669415283:=Nat
def tw14795782489242999116:=Nat
def tw18044456282808042798:=Nat
def tw13842939083067028085:=Nat
def tw17903411391212574133:=Nat
def tw5956110739643283395:=Nat
def tw4304942125664398651:=Nat
def tw127449596693372832:=Nat
def tw3399194982213878801:=Nat
def tw4166485499529698259:=Nat
def tw887602036967666786:=Nat
def tw11052781808691207988:=Nat
def tw14141679058617125193:=Nat
def tw1605708549563824450:=Nat
def tw17798097298454144093:=Nat
def tw11971157624873804468:=Nat
def tw4577533385763154811:=Nat
def tw4917827981896807652:=Nat
def tw1457563781562673741:=Nat
def tw2436358940549359166:=Nat
def tw12065867072796484459:=Nat
def tw16523306649100731936:=Nat
def tw1797595811683042989:=Nat
def tw17539837628422801114:=Nat
def tw7366690931642894885:=Nat
def tw3209676023089139639:=Nat
def tw14634141812112695058:=Nat
def tw3814590678707987821:=Nat
def tw7995028820205598314:=Nat
def tw9784842200482584554:=Nat
def tw7651241305708422361:=Nat
def tw13573260337494402071:=Nat
def tw3891922535954377485:=Nat
def tw11627641008753668951:=Nat
def tw13731891021350844862:=Nat
def tw7399268558137988063:=Nat
def tw16323421958042814048:=Nat
def tw9660601517276233140:=Nat
def tw14354530851334947519:=Nat
def tw15862701852895881393:=Nat
def tw13453194809863433162:=Nat
def tw10443981473491009845:=Nat
def tw13244592930689202797:=Nat
def tw5791884937260834954:=Nat
def tw17829708963284172695:=Nat
def tw3974359733398717513:=Nat
def tw11192386391370411580:=Nat
def tw5447084732593156913:=Nat
def tw13984735403397899984:=Nat
def tw6979405861581613059:=Nat
def tw2182638383162437662:=Nat
def tw1760870112117037493:=Nat
def tw2377454717937758200:=Nat
def tw11356732211751049885:=Nat
def tw3089618754855582266:=Nat
def tw2553757455280298627:=Nat
def tw9401821255855026102:=Nat
def tw15012476281425934802:=Nat
def tw1293171311123635785:=Nat
def tw12049360567869370471:=Nat
def tw6398260926659792217:=Nat
def tw8066908863557421385:=Nat
def tw1771212261979559221:=Nat
def tw5139853175073149359:=Nat
def tw8576704701087122881:=Nat
def tw8436862197767502850:=Nat
def tw3267629367780008085:=Nat
end PySem.W.Fast
open PySem PySem.W PyProof.Rows
set_option Elab.async false
set_option maxRecDepth 100000 in
set_option maxHeartbeats 0 in
theorem PySem.Challenge.cw_relationsfound_s01_answers_holds : PySem.Challenge.rw_relationsfound_s01_answers.Holds := by
 w_on;k_headS;(case hw=>exact⟨[.list [.int 5]],by decide +kernel,by decide +kernel⟩)
 k_fillS
 refine Rf.walk_rf (r:=PySem.Challenge.rw_relationsfound_s01_answers) (by decide +kernel) rfl rfl ⟨rfl,by decide,by decide⟩ (fun w h Y=>PySem.W.kIn_of Y) ?F ?S
 case F=>
  intro w mg fa h Y KX G hmg
  refine' Rf.end_mk KX G hmg ?a142 ?l142 ?c142 ?k142 ?rest
  (case a142=>k_is);(case l142=>k_is);(case c142=>k_is);(case k142=>k_is)
  intro fd Fa base
  refine' Rf.all_mk Fa ?D11 ?D12 ?D13 ?D14 ?D18 ?D21 ?D22 ?D23 ?D24 ?D25 ?D26 ?D32 ?D33 ?D34 ?D35 ?D36 ?D37 ?D38 ?D40 ?D43 ?D44 ?D47 ?D48 ?D49 ?D50 ?D51 ?D52 ?D53 ?D55 ?D56 ?D57 ?D58 ?D59 ?D63 ?D64 ?D65 ?D66 ?D67 ?D68 ?D69 ?D70 ?D71 ?D72 ?D73 ?D74 ?D75 ?D76 ?D77 ?D78 ?D79 ?D80 ?D83 ?D84 ?D85 ?D93 ?D94 ?D95 ?D96 ?D97 ?D98 ?D99 ?D100 ?D101 ?D102 ?D103 ?D108 ?D110 ?D112 ?D113 ?D114 ?D115 ?D120 ?D121 ?D122 ?D123 ?D124 ?D125 ?D126 ?D127 ?D128 ?D129 ?D130 ?D131 ?D132 ?D133 ?D134 ?D135 ?D136 ?D137 ?D138 ?D139 ?D141 ?BCB ?MfB0 ?BCC ?MfC0 ?BCR ?MfR0 ?BCF ?MfF0 ?BCD ?MrI ?MrD ?MrN ?MrW ?MrR ?BCT ?MtI ?MtL ?MtR ?MtF ?MtV ?MtH ?MtA ?BCO ?MfO0 ?EXN ?EXY ?EXP ?EXZ ?EXX ?nd ?c_GREATEST_LENGTH ?c_FARTHEST_NUMBER ?c_MOST_INPUTS ?c_CONDITION_ANY ?c_CONDITION_HAS_NUMBERS ?c_CONDITION_WITH_COUNT ?c_GREATEST_COUNT ?c_MOST_NUMBERS ?c_FARTHEST ?c_MOST_STEPS ?c_MOST_OTHERS ?c_MOST_CONDITIONS ?c_MOST_TURNINGS ?c_MOST_WAYS ?c_KEPT ?c_BROKEN ?c_OFF ?c_MOST_INPUTS_TRIED ?c_MOST_STRONGEST ?Bl ?gaS ?taS ?gaC ?taC ?gaW ?taW ?gaA ?taA ?gaV ?raV ?tv0 ?tv1 ?tv2 ?tv6 ?tv7 ?tv8 ?tv9 ?gaH ?raH ?th0 ?th1 ?th2 ?th3 ?th4 ?th5 ?th6 ?th7 ?th8 ?th9 ?th10 ?th11 ?gaF ?raF ?tw0 ?tw1 ?tw2 ?tw3 ?tw4 ?tw5 ?tw6 base
  (case D11 | D12 | D13 | D14 | D18 | D21 | D22 | D23 | D24 | D25 | D26 | D32 | D33 | D34 | D35 | D36 | D37 | D38 | D40 | D43 | D44 | D47 | D48 | D49 | D50 | D51 | D52 | D53 | D55 | D56 | D57 | D58 | D59 | D63 | D64 | D65 | D66 | D67 | D68 | D69 | D70 | D71 | D72 | D73 | D74 | D75 | D76 | D77 | D78 | D79 | D80 | D83 | D84 | D85 | D93 | D94 | D95 | D96 | D97 | D98 | D99 | D100 | D101 | D102 | D103 | D108 | D110 | D112 | D113 | D114 | D115 | D120 | D121 | D122 | D123 | D124 | D125 | D126 | D127 | D128 | D129 | D130 | D131 | D132 | D133 | D134 | D135 | D136 | D137 | D138 | D139 | D141=>refine' Rf.def_mk KX G ?a ?l ?c ?k;(case a=>k_is);(case l=>k_is);(case c=>k_is);(case k=>k_is))
  (case BCB=>refine'⟨PySem.W.mg_of KX G ?aC,⟨?pg,?hd,?po,?sa⟩,⟨?mk,?ii,?fn,?kc⟩,Rf.noat_mk ?n0,Rf.noat_mk ?n1,Rf.noat_mk ?n2⟩;(case aC | pg | hd | po | sa | mk | ii | fn | kc | n0 | n1 | n2=>k_is))
  (case BCC=>refine'⟨PySem.W.mg_of KX G ?aC,⟨?pg,?hd,?po,?sa⟩,⟨?mk,?ii,?fn,?kc⟩,Rf.noat_mk ?n0,Rf.noat_mk ?n1,Rf.noat_mk ?n2⟩;(case aC | pg | hd | po | sa | mk | ii | fn | kc | n0 | n1 | n2=>k_is))
  (case BCR=>refine'⟨PySem.W.mg_of KX G ?aC,⟨?pg,?hd,?po,?sa⟩,⟨?mk,?ii,?fn,?kc⟩,Rf.noat_mk ?n0,Rf.noat_mk ?n1,Rf.noat_mk ?n2,Rf.noat_mk ?n3⟩;(case aC | pg | hd | po | sa | mk | ii | fn | kc | n0 | n1 | n2 | n3=>k_is))
  (case BCF=>refine'⟨PySem.W.mg_of KX G ?aC,⟨?pg,?hd,?po,?sa⟩,⟨?mk,?ii,?fn,?kc⟩,Rf.noat_mk ?n0,Rf.noat_mk ?n1,Rf.noat_mk ?n2,Rf.noat_mk ?n3⟩;(case aC | pg | hd | po | sa | mk | ii | fn | kc | n0 | n1 | n2 | n3=>k_is))
  (case BCD=>refine'⟨PySem.W.mg_of KX G ?aC,⟨?pg,?hd,?po,?sa⟩,⟨?mk,?ii,?fn,?kc⟩,Rf.noat_mk ?n0,Rf.noat_mk ?n1,⟨?ma0,?mf0,?mk0⟩,⟨?ma1,?mf1,?mk1⟩,⟨?ma2,?mf2,?mk2⟩,⟨?ma3,?mf3,?mk3⟩⟩;(case aC | pg | hd | po | sa | mk | ii | fn | kc | n0 | n1 | ma0 | mf0 | mk0 | ma1 | mf1 | mk1 | ma2 | mf2 | mk2 | ma3 | mf3 | mk3=>k_is))
  (case BCT=>refine'⟨PySem.W.mg_of KX G ?aC,⟨?pg,?hd,?po,?sa⟩,⟨?mk,?ii,?fn,?kc⟩,Rf.noat_mk ?n0,Rf.noat_mk ?n1,Rf.noat_mk ?n2,Rf.noat_mk ?n3,Rf.noat_mk ?n4,Rf.noat_mk ?n5,⟨?ma0,?mf0,?mk0⟩,⟨?ma1,?mf1,?mk1⟩,⟨?ma2,?mf2,?mk2⟩,⟨?ma3,?mf3,?mk3⟩,⟨?ma4,?mf4,?mk4⟩,⟨?ma5,?mf5,?mk5⟩⟩;(case aC | pg | hd | po | sa | mk | ii | fn | kc | n0 | n1 | n2 | n3 | n4 | n5 | ma0 | mf0 | mk0 | ma1 | mf1 | mk1 | ma2 | mf2 | mk2 | ma3 | mf3 | mk3 | ma4 | mf4 | mk4 | ma5 | mf5 | mk5=>k_is))
  (case BCO=>refine'⟨PySem.W.mg_of KX G ?aC,⟨?pg,?hd,?po,?sa⟩,⟨?mk,?ii,?fn,?kc⟩,Rf.noat_mk ?n0,Rf.noat_mk ?n1,Rf.noat_mk ?n2,Rf.noat_mk ?n3⟩;(case aC | pg | hd | po | sa | mk | ii | fn | kc | n0 | n1 | n2 | n3=>k_is))
  (case MfB0 | MfC0 | MfR0 | MfF0 | MrI | MrD | MrN | MrW | MrR | MtI | MtL | MtR | MtF | MtV | MtH | MtA | MfO0=>refine'⟨_,L2.fun_mk ?l ?c ?k⟩;(case l=>k_is);(case c=>k_is);(case k=>k_is))
  (case EXN | EXY | EXP | EXZ | EXX=>refine'⟨PySem.W.mg_of KX G ?a,?ex,?fl⟩;(case a=>k_is);(case ex=>kernel_rfl);(case fl=>kernel_rfl))
  (case nd=>decide)
  (case c_GREATEST_LENGTH | c_FARTHEST_NUMBER | c_MOST_INPUTS | c_CONDITION_ANY | c_CONDITION_HAS_NUMBERS | c_CONDITION_WITH_COUNT | c_GREATEST_COUNT | c_MOST_NUMBERS | c_FARTHEST | c_MOST_STEPS | c_MOST_OTHERS | c_MOST_CONDITIONS | c_MOST_TURNINGS | c_MOST_WAYS | c_KEPT | c_BROKEN | c_OFF | c_MOST_INPUTS_TRIED | c_MOST_STRONGEST=>refine' Rf.int_mk KX G ?a;(case a=>k_is))
  (case Bl=>refine'⟨PySem.W.mg_none_of KX G ?b0,PySem.W.mg_none_of KX G ?b1,PySem.W.mg_none_of KX G ?b2,PySem.W.mg_none_of KX G ?b3,PySem.W.mg_none_of KX G ?b4,PySem.W.mg_none_of KX G ?b5,PySem.W.mg_none_of KX G ?b6,PySem.W.mg_none_of KX G ?b7,PySem.W.mg_none_of KX G ?b8,PySem.W.mg_none_of KX G ?b9,PySem.W.mg_none_of KX G ?b10,PySem.W.mg_none_of KX G ?b11,PySem.W.mg_none_of KX G ?b12,PySem.W.mg_none_of KX G ?b13⟩;(case b0 | b1 | b2 | b3 | b4 | b5 | b6 | b7 | b8 | b9 | b10 | b11 | b12 | b13=>k_is))
  (case gaS | gaC | gaW | gaA | gaV | gaH | gaF=>refine' PySem.W.mg_of KX G ?a;(case a=>k_is))
  (case raV | raH | raF=>k_is)
  (case taS | taC | taW | taA | tv0 | tv1 | tv2 | tv6 | tv7 | tv8 | tv9 | th0 | th1 | th2 | th3 | th4 | th5 | th6 | th7 | th8 | th9 | th10 | th11 | tw0 | tw1 | tw2 | tw3 | tw4 | tw5 | tw6=>refine' Rf.tup_mk ?l ?s ?v;(case l=>k_is);(case s=>decide);(case v=>exact Rf.areV_vals (by decide)))
 case S=>
  intro K H xs a hwi hask hx
  cases hx with
  | cons h1 h2=>
   cases h2
   cases h1 with
   | lst hs ha=>
    have e:=L2.ints_dw a.1 _ ha
    subst e
    have q:((Codec.inLen 0 5700 a.1&&a.1.all (Codec.inInt (Int.negSucc 999999999999999999) (Int.ofNat 1000000000000000000))) &&true)=true:=hwi
    rw[Bool.and_eq_true,Bool.and_eq_true]at q
    have hl:=(Codec.inNat_iff.mp q.1.1).2
    exact Rf.asked_mk hs (by omega) hask
