import Derived.Test.YtgccjefbedpmpaaGreatDoorYBIns
import Derived.Test.YtgccjefbedpmpaaGreatDoorYRef2
namespace Go.Proofs.YtgccjefbedpmpaaGreatDoor
open Go.RowKit
set_option maxRecDepth 100000
set_option maxHeartbeats 8000000
theorem byKey_inj {os:List Opn} (h:ByKey os) {x y:Opn} (hx:x∈os) (hy:y∈os) (e:x.key=y.key):x=y:=by
 obtain ⟨i,hi,rfl⟩:=List.mem_iff_getElem.1 hx
 obtain ⟨j,hj,rfl⟩:=List.mem_iff_getElem.1 hy
 rcases Nat.lt_trichotomy i j with h1|h1|h1
 ·have:=List.pairwise_iff_getElem.1 h i j hi hj h1;omega
 ·subst h1;rfl
 ·have:=List.pairwise_iff_getElem.1 h j i hj hi h1;omega
def Desc (ins:List Opn) (o x:Opn):Prop:=∀ P:Opn→Prop,P o→(∀ p x,P p→p∈ins→x∈ins→x.rf=p.key→P x)→P x
theorem Desc.self {ins:List Opn} {o:Opn}:Desc ins o o:=fun _ h _=>h
theorem Desc.down {ins:List Opn} {o p x:Opn} (h:Desc ins o p) (hp:p∈ins) (hx:x∈ins) (e:x.rf=p.key):Desc ins o x:=fun P a b=>b p x (h P a b) hp hx e
theorem Desc.ind {ins:List Opn} {o:Opn} {motive:∀ x,Desc ins o x→Prop} (self:motive o .self) (down:∀ {p x} (h:Desc ins o p) hp hx e,motive p h→motive x (h.down hp hx e)) {x:Opn} (h:Desc ins o x):motive x h:=
 (h (fun x=>∃ h,motive x h) ⟨_,self⟩ fun _ _ ⟨k,m⟩ a b e=>⟨_,down k a b e m⟩).elim fun _ m=>m
theorem Desc.st {ins:List Opn} {o x:Opn} (hU:∀ x∈ins,∀ y∈ins,x.rf=y.key→y.st<x.st) (h:Desc ins o x):o.st≤x.st:=by
 induction h using Desc.ind with
 | self=>exact Int.le_refl _
 | down h hp hx e ih=>have:=hU _ hx _ hp e;omega
theorem Desc.trans {ins:List Opn} {a b c:Opn} (h:Desc ins a b) (k:Desc ins b c):Desc ins a c:=by
 induction k using Desc.ind with
 | self=>exact h
 | down h hp hx e ih=>exact .down ih hp hx e
theorem tellL_desc (ins:List Opn) (gone:List Int):∀ (n:Nat) (ref:Int),∀ x∈tellL n ins gone ref,x∈ins∧∃ c∈ins,c.rf=ref∧Desc ins c x
 | 0,_,_,h=>by cases h
 | n+1,ref,x,h=>by
  obtain ⟨o,ho,hx⟩:=List.mem_flatMap.1 (show x∈(hangs ins ref).flatMap _ from h)
  obtain ⟨ho1,ho2⟩:=List.mem_filter.1 ho
  rw [decide_eq_true_eq] at ho2
  rcases List.mem_append.1 hx with k|k
  ·split at k
   ·cases k
   ·obtain rfl:=List.mem_singleton.1 k
    exact ⟨ho1,_,ho1,ho2,.self⟩
  ·obtain ⟨h1,c,hc,e,hd⟩:=tellL_desc ins gone n _ x k
   exact ⟨h1,o,ho1,ho2,Desc.trans (.down .self ho1 hc e) hd⟩
theorem desc_one {ins:List Opn} (hU:∀ x∈ins,∀ y∈ins,x.rf=y.key→y.st<x.st) (hK:∀ x∈ins,∀ y∈ins,x.key=y.key→x=y) {a b:Opn} (ha:a∈ins) (hb:b∈ins) (hab:a≠b) (e:a.rf=b.rf) {x:Opn} (h1:Desc ins a x):Desc ins b x→False:=by
 induction h1 using Desc.ind with
 | self=>
  intro h2
  induction h2 using Desc.ind with
  | self=>exact hab rfl
  | down h hp hx e2=>
   have h3:=h.st hU
   have h4:=hU _ hb _ hp (by rw [← e,e2])
   omega
 | down h hp hx e1 ih=>
  intro h2
  induction h2 using Desc.ind with
  | self=>
   have h3:=h.st hU
   have h4:=hU _ ha _ hp (by rw [e,e1])
   omega
  | down h' hp' hx' e2=>
   have:=hK _ hp _ hp' (by rw [← e1,← e2])
   subst this
   exact ih h'
theorem tellL_nodup {ins:List Opn} (gone:List Int) (hU:∀ x∈ins,∀ y∈ins,x.rf=y.key→y.st<x.st) (hK:∀ x∈ins,∀ y∈ins,x.key=y.key→x=y) (hn:ins.Nodup):∀ (n:Nat) (ref:Int),(tellL n ins gone ref).Nodup
 | 0,_=>List.nodup_nil
 | n+1,ref=>by
  have hm:∀ o∈hangs ins ref,o∈ins∧o.rf=ref:=fun o ho=>by
   obtain ⟨a,b⟩:=List.mem_filter.1 ho
   exact ⟨a,by simpa using b⟩
  have hd:∀ o∈hangs ins ref,∀ x∈(if gone.contains o.key then [] else [o])++tellL n ins gone o.key,Desc ins o x:=fun o ho x hx=>by
   rcases List.mem_append.1 hx with k|k
   ·split at k
    ·cases k
    ·obtain rfl:=List.mem_singleton.1 k;exact .self
   ·obtain ⟨-,c,hc,e,hd⟩:=tellL_desc ins gone n _ x k
    exact Desc.trans (.down .self (hm o ho).1 hc e) hd
  refine List.pairwise_flatMap.2 ⟨fun o ho=>?_,?_⟩
  ·refine List.pairwise_append.2 ⟨by split<;>simp,tellL_nodup gone hU hK hn n _,fun a ha b hb=>?_⟩
   split at ha
   ·cases ha
   ·obtain rfl:=List.mem_singleton.1 ha
    obtain ⟨-,c,hc,e,hd⟩:=tellL_desc ins gone n _ b hb
    have h3:=hd.st hU
    have h4:=hU _ hc _ (hm _ ho).1 e
    intro h5
    subst h5
    omega
  ·refine List.Pairwise.imp_of_mem ?_ (List.Pairwise.sublist List.filter_sublist hn)
   intro a b ha hb hne x hx y hy hxy
   subst hxy
   exact desc_one hU hK (hm a ha).1 (hm b hb).1 hne ((hm a ha).2.trans (hm b hb).2.symm) (hd a ha x hx) (hd b hb x hy)
theorem nodup_len {l:List Opn}:∀ {m:List Opn},l.Nodup→(∀ x∈l,x∈m)→l.length≤m.length:=by
 induction l with
 | nil=>intro m _ _;exact Nat.zero_le _
 | cons a l ih=>
  intro m hn hs
  obtain ⟨s,t,rfl⟩:=List.append_of_mem (hs a (List.mem_cons_self ..))
  obtain ⟨h1,h2⟩:=List.nodup_cons.1 hn
  have:=ih (m:=s++t) h2 fun x hx=>by
   have hne:x≠a:=fun e=>h1 (e▸hx)
   rcases List.mem_append.1 (hs x (List.mem_cons_of_mem _ hx)) with k|k
   ·exact List.mem_append_left _ k
   ·rcases List.mem_cons.1 k with k|k
    ·exact absurd k hne
    ·exact List.mem_append_right _ k
  simp only [List.length_append,List.length_cons] at this ⊢
  omega
theorem ByKey.nodup {os:List Opn} (h:ByKey os):os.Nodup:=List.Pairwise.via (fun {a b} k e=>by subst e;exact Int.lt_irrefl _ k) h
theorem ok_nums {o:Opn} (h:o.ok=true):(1≤o.cl∧o.cl≤1048575)∧(1≤o.ck∧o.ck≤1048575)∧(1≤o.st∧o.st≤1073741823)∧o.key≠o.rf:=by
 unfold Opn.ok okOp at h
 simp only [Bool.and_eq_true,Bool.not_eq_true',decide_eq_true_eq,decide_eq_false_iff_not] at h
 obtain ⟨⟨⟨⟨⟨⟨⟨h1,h2⟩,h3⟩,h4⟩,h5⟩,h6⟩,h7⟩,-⟩:=h
 exact ⟨⟨h1,h2⟩,⟨h3,h4⟩,⟨h5,h6⟩,h7⟩
theorem ok_kd {o:Opn} (h:o.ok=true):(o.kd=1∧okChar o.ch=true∧(okKey o.rf=true∨o.rf=0))∨(o.kd=2∧okKey o.rf=true∧o.ch=0):=by
 unfold Opn.ok okOp at h
 simp only [Bool.and_eq_true] at h
 have k:=h.2
 split at k
 ·rw [Bool.and_eq_true,Bool.or_eq_true,decide_eq_true_eq] at k
  exact Or.inl ⟨by assumption,k⟩
 ·rw [Bool.and_eq_true,Bool.and_eq_true,decide_eq_true_eq,decide_eq_true_eq] at k
  exact Or.inr ⟨k.1.1,k.1.2,k.2⟩
theorem okKey_pos {k:Int} (h:okKey k=true):1048577≤k:=by
 unfold okKey at h
 simp only [Bool.and_eq_true,decide_eq_true_eq] at h
 omega
theorem ok_rf {o:Opn} (h:o.ok=true):0≤o.rf:=by
 rcases ok_kd h with ⟨-,-,k|k⟩|⟨-,k,-⟩
 ·have:=okKey_pos k;omega
 ·omega
 ·have:=okKey_pos k;omega
theorem okKey_of {o:Opn} (h:o.ok=true):okKey o.key=true:=by
 obtain ⟨h1,h2,-⟩:=ok_nums h
 unfold okKey Opn.key
 simp only [Bool.and_eq_true,decide_eq_true_eq]
 omega
theorem key_parts {a c a' c':Int} (h:0≤c∧c<1048576) (h':0≤c'∧c'<1048576) (e:a*1048576+c=a'*1048576+c'):a=a'∧c=c':=by omega
structure SetOk (os:List Opn):Prop where
 by':ByKey os
 ok:∀ o∈os,o.ok=true
 len:os.length≤120
 gap:∀ o∈os,1<o.ck→∃ p∈os,p.key=o.key-1
 ref:∀ o∈os,o.rf=0∨∃ p∈os,p.key=o.rf∧p.kd=1∧p.st<o.st
theorem SetOk.nil:SetOk []:=⟨.nil,fun _ h=>(by cases h),Nat.zero_le _,fun _ h=>(by cases h),fun _ h=>(by cases h)⟩
theorem SetOk.up {os:List Opn} (h:SetOk os):∀ x∈insOf os,∀ y∈insOf os,x.rf=y.key→y.st<x.st:=fun x hx y hy e=>by
 have mx:=(List.mem_filter.1 hx).1
 have my:=(List.mem_filter.1 hy).1
 rcases h.ref x mx with k|⟨p,hp,k1,-,k3⟩
 ·have:=okKey_pos (okKey_of (h.ok y my));omega
 ·have:=byKey_inj h.by' hp my (k1.trans e)
  subst this
  exact k3
theorem SetOk.tellable {os:List Opn} (h:SetOk os):Tellable os:=by
 have hk:∀ o∈os,1≤o.key∧o.key<1099511627776:=fun o ho=>by
  obtain ⟨h1,h2,-⟩:=ok_nums (h.ok o ho)
  unfold Opn.key
  omega
 refine ⟨by have:=h.len;omega,fun o ho=>?_,fun o ho=>by have:=hk o ho;omega,fun o ho=>?_,fun o ho=>ok_rf (h.ok o ho),h.up,fun xs hp hw=>?_⟩
 ·obtain ⟨h1,h2,-⟩:=ok_nums (h.ok o ho);unfold ccT;omega
 ·obtain ⟨-,-,h3,-⟩:=ok_nums (h.ok o ho);omega
 ·have hm:∀ x∈xs,x∈insOf os:=fun x hx=>hp.mem_iff.1 hx
  have hl:xs.length≤120:=by
   rw [hp.length_eq]
   have:=List.length_filter_le (fun o:Opn=>decide (o.kd=1)) os
   have:=h.len
   unfold insOf
   omega
  have hn:xs.Nodup:=(hp.symm.nodup (List.Pairwise.sublist List.filter_sublist h.by'.nodup))
  have:=nodup_len (tellL_nodup (goneOf os) (fun x hx y hy=>h.up x (hm x hx) y (hm y hy)) (fun x hx y hy e=>byKey_inj h.by' (List.mem_filter.1 (hm x hx)).1 (List.mem_filter.1 (hm y hy)).1 e) hn 1073741824 0) (fun x hx=>(tellL_desc xs (goneOf os) _ _ x hx).1)
  omega
def insD (o:Opn):List Opn→List Opn
 | []=>[o]
 | x::l=>if o.st<x.st∨(x.st=o.st∧o.key<x.key) then x::insD o l else o::x::l
theorem insD_at (o:Opn):∀ (l:List Opn) (n:Nat),n≤l.length→(∀ i (h:i<l.length),i<n→o.st<l[i].st∨(l[i].st=o.st∧o.key<l[i].key))→(∀ h:n<l.length,¬ (o.st<l[n].st∨(l[n].st=o.st∧o.key<l[n].key)))→insD o l=l.take n++o::l.drop n
 | [],n,hn,_,_=>by
  have:n=0:=by simpa using hn
  subst this
  rfl
 | x::l,0,_,_,h2=>by
  have:=h2 (by simp)
  simp only [List.getElem_cons_zero] at this
  simp [insD,this]
 | x::l,n+1,hn,h1,h2=>by
  have:=h1 0 (by simp) (by omega)
  simp only [List.getElem_cons_zero] at this
  have ih:=insD_at o l n (by simpa using hn) (fun i h k=>by have:=h1 (i+1) (by simp;omega) (by omega);simpa using this) (fun h=>by have:=h2 (by simp;omega);simpa using this)
  simp [insD,this,ih]
theorem insD_perm (o:Opn):∀ l,(insD o l).Perm (o::l)
 | []=>.refl _
 | x::l=>by
  unfold insD
  split
  ·exact ((insD_perm o l).cons x).trans (.swap ..)
  ·exact .refl _
theorem insD_sorted {o:Opn}:∀ {l:List Opn},l.Pairwise (fun x y=>¬ ahd y x)→(∀ x∈l,x.rf=o.rf)→(insD o l).Pairwise (fun x y=>¬ ahd y x)
 | [],_,_=>by simp [insD]
 | x::l,h,hr=>by
  obtain ⟨h1,h2⟩:=List.pairwise_cons.1 h
  have hx:=hr x (List.mem_cons_self ..)
  unfold insD
  split
  ·rename_i hc
   refine List.pairwise_cons.2 ⟨fun y hy=>?_,insD_sorted h2 fun y hy=>hr y (List.mem_cons_of_mem _ hy)⟩
   rcases List.mem_cons.1 ((insD_perm o l).mem_iff.1 hy) with e|k
   ·rw [e];unfold ahd;omega
   ·exact h1 y k
  ·rename_i hc
   refine List.pairwise_cons.2 ⟨fun y hy=>?_,h⟩
   rcases List.mem_cons.1 hy with e|k
   ·rw [e];unfold ahd;omega
   ·have h3:=h1 y k
    have h4:=hr y hy
    unfold ahd at h3 ⊢
    omega
def onL (k:Int):List Opn→List Opn→List Opn
 | on,[]=>on
 | on,o::l=>onL k (if o.kd=1∧o.rf=k then insD o on else on) l
theorem onL_perm (k:Int):∀ (l on:List Opn),(onL k on l).Perm (on++l.filter fun o=>decide (o.kd=1∧o.rf=k))
 | [],on=>by simp [onL]
 | o::l,on=>by
  rw [onL]
  refine (onL_perm k l _).trans ?_
  by_cases h:o.kd=1∧o.rf=k
  ·rw [if_pos h,List.filter_cons_of_pos (by simpa using h)]
   exact ((insD_perm o on).append_right _).trans (List.perm_middle.symm)
  ·rw [if_neg h,List.filter_cons_of_neg (by simpa using h)]
theorem onL_sorted (k:Int):∀ (l on:List Opn),on.Pairwise (fun x y=>¬ ahd y x)→(∀ x∈on,x.rf=k)→(onL k on l).Pairwise (fun x y=>¬ ahd y x)
 | [],on,h,_=>h
 | o::l,on,h,hr=>by
  rw [onL]
  by_cases hc:o.kd=1∧o.rf=k
  ·rw [if_pos hc]
   refine onL_sorted k l _ (insD_sorted h fun x hx=>(hr x hx).trans hc.2.symm) fun x hx=>?_
   rcases List.mem_cons.1 ((insD_perm o on).mem_iff.1 hx) with e|q
   ·rw [e];exact hc.2
   ·exact hr x q
  ·rw [if_neg hc];exact onL_sorted k l _ h hr
theorem onL_take (k:Int) (l:List Opn):∀ (i:Nat) (on:List Opn) (h:i<l.length),onL k on (l.take (i+1))=(if l[i].kd=1∧l[i].rf=k then insD l[i] (onL k on (l.take i)) else onL k on (l.take i)):=by
 induction l with
 | nil=>intro i on h;simp at h
 | cons a l ih=>
  intro i on h
  cases i with
  | zero=>simp [onL]
  | succ i=>
   rw [List.take_succ_cons,List.take_succ_cons,onL,onL,ih i _ (by simpa using h)]
   simp
def toldR:Nat→List Opn→Int→List Opn
 | 0,_,_=>[]
 | n+1,l,k=>(onL k [] l).flatMap fun o=>o::toldR n l o.key
def visR (l:List Opn):List Opn:=(toldR 1073741824 l 0).filter fun o=>!(goneOf l).contains o.key
theorem hangs_on {os xs:List Opn} (hs:ByKey os) (hp:xs.Perm (insOf os)) (hw:xs.Pairwise (fun x y=>¬ ahd y x)) (k:Int):hangs xs k=onL k [] os:=by
 have hq:(hangs xs k).Perm (onL k [] os):=by
  refine (hp.filter _).trans (List.Perm.symm ((onL_perm k os []).trans ?_))
  rw [List.nil_append,insOf,List.filter_filter]
  refine List.Perm.of_eq (List.filter_congr fun x _=>?_)
  by_cases h1:x.kd=1<;>by_cases h2:x.rf=k<;>simp [h1,h2]
 refine List.Perm.eq_of_pairwise (le:=fun x y=>¬ ahd y x) (fun a b ha hb h1 h2=>?_) (List.Pairwise.sublist List.filter_sublist hw) (onL_sorted k os [] .nil fun _ h=>(by cases h)) hq
 have ma:=(List.mem_filter.1 (hp.mem_iff.1 (List.mem_filter.1 ha).1)).1
 have mb:=(List.mem_filter.1 (hp.mem_iff.1 (List.mem_filter.1 (hq.mem_iff.2 hb)).1)).1
 refine byKey_inj hs ma mb ?_
 unfold ahd at h1 h2
 omega
theorem tellL_vis {os xs:List Opn} (hs:ByKey os) (hp:xs.Perm (insOf os)) (hw:xs.Pairwise (fun x y=>¬ ahd y x)) (gone:List Int):∀ (n:Nat) (k:Int),tellL n xs gone k=(toldR n os k).filter fun o=>!gone.contains o.key
 | 0,_=>rfl
 | n+1,k=>by
  rw [tellL,toldR,hangs_on hs hp hw k,List.filter_flatMap]
  congr 1
  funext o
  rw [tellL_vis hs hp hw gone n,List.filter_cons]
  cases gone.contains o.key<;>rfl
theorem TextL.vis {os L:List Opn} (hs:ByKey os) (h:TextL os L):L=visR os:=by
 obtain ⟨xs,hp,hw,rfl⟩:=h
 exact tellL_vis hs hp hw _ _ _
theorem toldR_mem (l:List Opn):∀ (n:Nat) (k:Int),∀ x∈toldR n l k,x∈insOf l
 | 0,_,_,h=>by cases h
 | n+1,k,x,h=>by
  obtain ⟨o,ho,hx⟩:=List.mem_flatMap.1 (show x∈(onL k [] l).flatMap _ from h)
  rcases List.mem_cons.1 hx with e|q
  ·subst e
   have:=(onL_perm k l []).mem_iff.1 ho
   rw [List.nil_append] at this
   obtain ⟨h1,h2⟩:=List.mem_filter.1 this
   rw [decide_eq_true_eq] at h2
   exact List.mem_filter.2 ⟨h1,by simpa using h2.1⟩
  ·exact toldR_mem l n _ x q
def readyL (os:List Opn) (o:Opn):Bool:=(decide (o.ck≤1)||(os.find? (fun x=>decide (x.key=o.cl*1048576+(o.ck-1)))).isSome)&&(decide (o.rf=0)||((os.find? (fun x=>decide (x.key=o.rf))).isSome&&(decide ((getO (os.find? (fun x=>decide (x.key=o.rf)))).kd=1)&&decide ((getO (os.find? (fun x=>decide (x.key=o.rf)))).st<o.st))))
theorem find_key {os:List Opn} (h:ByKey os) {p:Opn} (hp:p∈os) {k:Int} (e:p.key=k):os.find? (fun x=>decide (x.key=k))=some p:=by
 cases hf:os.find? (fun x=>decide (x.key=k)) with
 | none=>have:=List.find?_eq_none.1 hf p hp;simp [e] at this
 | some q=>
  have h1:=List.find?_some hf
  have h2:=List.mem_of_find?_eq_some hf
  rw [decide_eq_true_eq] at h1
  rw [byKey_inj h h2 hp (h1.trans e.symm)]
theorem find_some {os:List Opn} {k:Int} (h:(os.find? (fun x=>decide (x.key=k))).isSome=true):∃ p∈os,p.key=k∧os.find? (fun x=>decide (x.key=k))=some p:=by
 obtain ⟨q,hq⟩:=Option.isSome_iff_exists.1 h
 have h1:=List.find?_some hq
 rw [decide_eq_true_eq] at h1
 exact ⟨q,List.mem_of_find?_eq_some hq,h1,hq⟩
theorem readyL_iff {os:List Opn} (h:ByKey os) (o:Opn):readyL os o=true↔(o.ck≤1∨∃ p∈os,p.key=o.cl*1048576+(o.ck-1))∧(o.rf=0∨∃ p∈os,p.key=o.rf∧p.kd=1∧p.st<o.st):=by
 unfold readyL
 rw [Bool.and_eq_true,Bool.or_eq_true,Bool.or_eq_true,decide_eq_true_eq,decide_eq_true_eq,Bool.and_eq_true,Bool.and_eq_true,decide_eq_true_eq,decide_eq_true_eq]
 constructor
 ·rintro ⟨h1,h2⟩
  refine ⟨h1.via id fun k=>?_,h2.via id fun ⟨k1,k2,k3⟩=>?_⟩
  ·obtain ⟨p,hp,e,-⟩:=find_some k;exact ⟨p,hp,e⟩
  ·obtain ⟨p,hp,e,q⟩:=find_some k1;rw [q] at k2 k3;exact ⟨p,hp,e,k2,k3⟩
 ·rintro ⟨h1,h2⟩
  refine ⟨h1.via id fun ⟨p,hp,e⟩=>?_,h2.via id fun ⟨p,hp,e,k2,k3⟩=>?_⟩
  ·rw [find_key h hp e];rfl
  ·rw [find_key h hp e];exact ⟨rfl,k2,k3⟩
theorem putK_len (o:Opn) (os:List Opn):(putK o os).length=os.length+1:=by
 unfold putK
 have:∀ l:List Opn,(l.filter (fun x=>decide (x.key<o.key))).length+(l.filter (fun x=>!decide (x.key<o.key))).length=l.length:=fun l=>by
  induction l with
  | nil=>rfl
  | cons a l ih=>
   by_cases h:a.key<o.key
   ·simp only [List.filter_cons,h,decide_true,Bool.not_true,if_true,Bool.false_eq_true,if_false,List.length_cons];omega
   ·simp only [List.filter_cons,h,decide_false,Bool.not_false,if_true,Bool.false_eq_true,if_false,List.length_cons];omega
 have:=this os
 rw [List.length_append,List.length_cons]
 omega
theorem SetOk.put {os:List Opn} (h:SetOk os) {o:Opn} (ho:o.ok=true) (hn:∀ x∈os,x.key≠o.key) (hl:os.length<120) (hr:readyL os o=true):SetOk (putK o os):=by
 obtain ⟨r1,r2⟩:=(readyL_iff h.by' o).1 hr
 refine ⟨putK_by h.by' hn,fun x hx=>?_,by rw [putK_len];omega,fun x hx hc=>?_,fun x hx=>?_⟩
 ·rcases putK_mem.1 hx with e|q
  ·rw [e];exact ho
  ·exact h.ok x q
 ·rcases putK_mem.1 hx with e|q
  ·subst e
   rcases r1 with k|⟨p,hp,k⟩
   ·omega
   ·exact ⟨p,putK_mem.2 (Or.inr hp),by rw [k];unfold Opn.key;omega⟩
  ·obtain ⟨p,hp,k⟩:=h.gap x q hc
   exact ⟨p,putK_mem.2 (Or.inr hp),k⟩
 ·rcases putK_mem.1 hx with e|q
  ·subst e
   exact r2.via id fun ⟨p,hp,k⟩=>⟨p,putK_mem.2 (Or.inr hp),k⟩
  ·exact (h.ref x q).via id fun ⟨p,hp,k⟩=>⟨p,putK_mem.2 (Or.inr hp),k⟩
structure BookOk (os ws:List Opn):Prop where
 set:SetOk os
 by':ByKey ws
 ok:∀ o∈ws,o.ok=true
 len:ws.length≤12
 apart:∀ x∈os,∀ y∈ws,x.key≠y.key
theorem BookOk.nil:BookOk [] []:=⟨.nil,.nil,fun _ h=>(by cases h),Nat.zero_le _,fun _ h=>(by cases h)⟩
def takeN:Nat→List Opn→List Opn→List Opn×List Opn
 | 0,os,ws=>(os,ws)
 | f+1,os,ws=>if 120≤os.length then (os,ws) else match ws.findIdx? (readyL os) with
  | none=>(os,ws)
  | some i=>takeN f (putK (getO ws[i]?) os) (ws.eraseIdx i)
theorem BookOk.next {os ws:List Opn} (h:BookOk os ws) (hl:¬ 120≤os.length) {i:Nat} (hi:ws.findIdx? (readyL os)=some i):BookOk (putK (getO ws[i]?) os) (ws.eraseIdx i):=by
 obtain ⟨hi1,hi2,-⟩:=List.findIdx?_eq_some_iff_getElem.1 hi
 have hm:ws[i]∈ws:=List.getElem_mem hi1
 have e:getO ws[i]?=ws[i]:=by rw [List.getElem?_eq_getElem hi1];rfl
 rw [e]
 refine ⟨h.set.put (h.ok _ hm) (fun x hx=>h.apart x hx _ hm) (by omega) hi2,List.Pairwise.sublist (List.eraseIdx_sublist _ _) h.by',fun o ho=>h.ok o (List.mem_of_mem_eraseIdx ho),Nat.le_trans (List.length_eraseIdx_le ..) h.len,fun x hx y hy=>?_⟩
 rcases putK_mem.1 hx with k|k
 ·subst k
  obtain ⟨j,hj,hne,rfl⟩:=List.mem_eraseIdx_iff_getElem.1 hy
  rcases Nat.lt_trichotomy i j with q|q|q
  ·have:=List.pairwise_iff_getElem.1 h.by' i j hi1 hj q;omega
  ·exact absurd q.symm hne
  ·have:=List.pairwise_iff_getElem.1 h.by' j i hj hi1 q;omega
 ·exact h.apart x k y (List.mem_of_mem_eraseIdx hy)
theorem takeN_ok:∀ (n:Nat) {os ws:List Opn},BookOk os ws→BookOk (takeN n os ws).1 (takeN n os ws).2
 | 0,_,_,h=>h
 | n+1,os,ws,h=>by
  unfold takeN
  split
  ·exact h
  ·split
   ·exact h
   ·rename_i hl _ i hi
    exact takeN_ok n (h.next hl hi)
theorem lessKey_ok {os ws:List Opn} (h:BookOk os ws) (k:Int):BookOk os (lessKey k ws):=⟨h.set,List.Pairwise.sublist List.filter_sublist h.by',fun o ho=>h.ok o (List.mem_filter.1 ho).1,Nat.le_trans (List.length_filter_le _ _) h.len,fun x hx y hy=>h.apart x hx y (List.mem_filter.1 hy).1⟩
theorem BookOk.put {os ws:List Opn} (h:BookOk os ws) {o:Opn} (ho:o.ok=true) (hn:∀ x∈os,x.key≠o.key) (hl:os.length<120) (hr:readyL os o=true) (hw:∀ x∈ws,x.key≠o.key):BookOk (putK o os) ws:=
 ⟨h.set.put ho hn hl hr,h.by',h.ok,h.len,fun x hx y hy=>by
  rcases putK_mem.1 hx with e|q
  ·rw [e];exact fun e2=>hw y hy e2.symm
  ·exact h.apart x q y hy⟩
theorem lastC_spec (cl:Int):∀ (os:List Opn) (m:Int),m≤lastC cl os m∧(∀ o∈os,o.cl=cl→o.ck≤lastC cl os m)∧(lastC cl os m=m∨∃ o∈os,o.cl=cl∧o.ck=lastC cl os m)
 | [],m=>⟨Int.le_refl _,fun _ h=>(by cases h),Or.inl rfl⟩
 | o::os,m=>by
  rw [lastC]
  obtain ⟨h1,h2,h3⟩:=lastC_spec cl os (if o.cl=cl then max m o.ck else m)
  by_cases hc:o.cl=cl
  ·rw [if_pos hc] at h1 h2 h3 ⊢
   refine ⟨by omega,fun x hx hxc=>?_,?_⟩
   ·rcases List.mem_cons.1 hx with e|q
    ·rw [e];omega
    ·exact h2 x q hxc
   ·rcases h3 with k|⟨x,hx,k⟩
    ·rcases Int.le_total m o.ck with q|q
     ·exact Or.inr ⟨o,List.mem_cons_self ..,hc,by omega⟩
     ·exact Or.inl (by omega)
    ·exact Or.inr ⟨x,List.mem_cons_of_mem _ hx,k⟩
  ·rw [if_neg hc] at h1 h2 h3 ⊢
   refine ⟨h1,fun x hx hxc=>?_,h3.via id fun ⟨x,hx,k⟩=>⟨x,List.mem_cons_of_mem _ hx,k⟩⟩
   rcases List.mem_cons.1 hx with e|q
   ·rw [e] at hxc;exact absurd hxc hc
   ·exact h2 x q hxc
theorem lastS_spec:∀ (os:List Opn) (m:Int),m≤lastS os m∧(∀ o∈os,o.st≤lastS os m)
 | [],m=>⟨Int.le_refl _,fun _ h=>(by cases h)⟩
 | o::os,m=>by
  rw [lastS]
  obtain ⟨h1,h2⟩:=lastS_spec os (max m o.st)
  refine ⟨by omega,fun x hx=>?_⟩
  rcases List.mem_cons.1 hx with e|q
  ·rw [e];omega
  ·exact h2 x q
def ownL (cl:Int) (os:List Opn) (o:Opn):Opn:=⟨o.kd,cl,lastC cl os 0+1,lastS os 0+1,o.rf,o.ch⟩
def roomL (cl:Int) (os:List Opn):Bool:=decide (120≤os.length)||(decide (1048575≤lastC cl os 0)||decide (1073741823≤lastS os 0))
theorem own_key {cl:Int} {os:List Opn} {o:Opn} (h:SetOk os) (hr:roomL cl os=false):∀ x∈os,x.key≠(ownL cl os o).key:=fun x hx e=>by
 obtain ⟨h1,h2,-⟩:=ok_nums (h.ok x hx)
 unfold roomL at hr
 simp only [Bool.or_eq_false_iff,decide_eq_false_iff_not] at hr
 obtain ⟨c1,c2,-⟩:=lastC_spec cl os 0
 obtain ⟨e1,e2⟩:=key_parts (a:=x.cl) (c:=x.ck) (a':=cl) (c':=lastC cl os 0+1) (by omega) (by omega) e
 have:=c2 x hx e1
 omega
theorem own_ready {cl:Int} {os:List Opn} {o:Opn} (h:SetOk os) (hrf:o.rf=0∨∃ p∈os,p.key=o.rf∧p.kd=1):readyL os (ownL cl os o)=true:=by
 refine (readyL_iff h.by' _).2 ⟨?_,?_⟩
 ·obtain ⟨c1,c2,c3⟩:=lastC_spec cl os 0
  rcases c3 with k|⟨p,hp,e1,e2⟩
  ·exact Or.inl (by show lastC cl os 0+1≤1;omega)
  ·refine Or.inr ⟨p,hp,?_⟩
   show p.cl*1048576+p.ck=cl*1048576+(lastC cl os 0+1-1)
   rw [e1,e2];omega
 ·refine hrf.via id fun ⟨p,hp,k1,k2⟩=>⟨p,hp,k1,k2,?_⟩
  have:=(lastS_spec os 0).2 p hp
  show p.st<lastS os 0+1
  omega
theorem own_ok {cl:Int} {os:List Opn} {o:Opn} (h:SetOk os) (hcl:1≤cl∧cl≤1048575) (hr:roomL cl os=false) (hrf:o.rf=0∨∃ p∈os,p.key=o.rf∧p.kd=1) (hk:(o.kd=1∧okChar o.ch=true)∨(o.kd=2∧o.ch=0∧o.rf≠0)):(ownL cl os o).ok=true:=by
 have hne:=own_key (o:=o) h hr
 have c1:=(lastC_spec cl os 0).1
 have s1:=(lastS_spec os 0).1
 have hf:okKey o.rf=true∨o.rf=0:=hrf.elim Or.inr fun ⟨p,hp,k1,_⟩=>Or.inl (k1▸okKey_of (h.ok p hp))
 have hn:(ownL cl os o).key≠o.rf:=by
  rcases hrf with k|⟨p,hp,k1,-⟩
  ·rw [k];show cl*1048576+(lastC cl os 0+1)≠0;omega
  ·rw [← k1];exact fun e=>hne p hp e.symm
 unfold roomL at hr
 simp only [Bool.or_eq_false_iff,decide_eq_false_iff_not] at hr
 show okOp o.kd cl (lastC cl os 0+1) (lastS os 0+1) o.rf o.ch=true
 unfold okOp
 simp only [Bool.and_eq_true,Bool.not_eq_true',decide_eq_true_eq,decide_eq_false_iff_not]
 refine ⟨⟨⟨⟨⟨⟨⟨by omega,by omega⟩,by omega⟩,by omega⟩,by omega⟩,by omega⟩,hn⟩,?_⟩
 rcases hk with ⟨k1,k2⟩|⟨k1,k2,k3⟩
 ·rw [if_pos k1,k2]
  rcases hf with q|q<;>simp [q]
 ·rw [if_neg (by omega)]
  rcases hf with q|q
  ·simp [q,k1,k2]
  ·exact absurd q k3
theorem SetOk.down {os:List Opn} (h:SetOk os) {a n:Int} (hn:n<1048576) (hp:∃ p∈os,p.key=a*1048576+n):∀ (k:Nat),1≤n-k→∃ q∈os,q.key=a*1048576+(n-k)
 | 0,_=>by simpa using hp
 | k+1,hk=>by
  obtain ⟨q,hq,e⟩:=SetOk.down h hn hp k (by omega)
  obtain ⟨-,h2,-⟩:=ok_nums (h.ok q hq)
  obtain ⟨e1,e2⟩:=key_parts (a:=q.cl) (c:=q.ck) (a':=a) (c':=n-k) (by omega) (by omega) e
  obtain ⟨p,hp,e3⟩:=h.gap q hq (by omega)
  exact ⟨p,hp,by rw [e3,e];omega⟩
theorem fIdx_some {os:List Opn} {k:Int}:0≤fIdx os k↔∃ p∈os,p.key=k:=by
 unfold fIdx
 cases h:os.findIdx? (fun o=>decide (o.key=k)) with
 | none=>
  refine ⟨fun e=>absurd e (by decide),fun ⟨p,hp,e⟩=>?_⟩
  have:=List.findIdx?_eq_none_iff.1 h p hp
  simp [e] at this
 | some i=>
  obtain ⟨h1,h2,-⟩:=List.findIdx?_eq_some_iff_getElem.1 h
  refine ⟨fun _=>⟨os[i],List.getElem_mem h1,by simpa using h2⟩,fun _=>by show (0:Int)≤(i:Int);omega⟩
theorem fIdx_get {os:List Opn} {k:Int} (h:0≤fIdx os k):∃ i:Nat,fIdx os k=i∧∃ hi:i<os.length,os[i].key=k:=by
 unfold fIdx at h ⊢
 cases hf:os.findIdx? (fun o=>decide (o.key=k)) with
 | none=>rw [hf] at h;exact absurd h (by decide)
 | some i=>
  obtain ⟨h1,h2,-⟩:=List.findIdx?_eq_some_iff_getElem.1 hf
  exact ⟨i,rfl,h1,by simpa using h2⟩
theorem fIdx_ge {os:List Opn} {k:Int}:-1≤fIdx os k∧fIdx os k<os.length:=by
 unfold fIdx
 cases hf:os.findIdx? (fun o=>decide (o.key=k)) with
 | none=>exact ⟨by decide,by show (-1:Int)<(os.length:Int);omega⟩
 | some i=>
  obtain ⟨h1,-,-⟩:=List.findIdx?_eq_some_iff_getElem.1 hf
  exact ⟨by show (-1:Int)≤(i:Int);omega,by show (i:Int)<(os.length:Int);omega⟩
theorem fIdx_any {os:List Opn} {k:Int}:decide (0≤fIdx os k)=os.any (fun x=>decide (x.key=k)):=by
 cases h:os.any (fun x=>decide (x.key=k)) with
 | true=>
  obtain ⟨p,hp,e⟩:=List.any_eq_true.1 h
  exact decide_eq_true (fIdx_some.2 ⟨p,hp,by simpa using e⟩)
 | false=>
  refine decide_eq_false fun q=>?_
  obtain ⟨p,hp,e⟩:=fIdx_some.1 q
  have:=List.any_eq_false.1 h p hp
  simp [e] at this
theorem ready_lack {os:List Opn} (h:SetOk os) {o:Opn} (ho:o.ok=true) {c:Int} (h1:1≤c) (h2:c<o.ck) (hf:fIdx os (o.cl*1048576+c)<0):readyL os o=false:=by
 cases hr:readyL os o with
 | false=>rfl
 | true=>
  obtain ⟨r,-⟩:=(readyL_iff h.by' o).1 hr
  have hk:=(ok_nums ho).2.1
  rcases r with r|r
  ·omega
  ·obtain ⟨q,hq,e⟩:=h.down (a:=o.cl) (n:=o.ck-1) (by omega) r (o.ck-1-c).toNat (by omega)
   have:=fIdx_some.2 ⟨q,hq,e⟩
   rw [show o.ck-1-((o.ck-1-c).toNat:Int)=c by omega] at this
   omega
theorem ready_full {os:List Opn} (h:SetOk os) {o:Opn} (hf:∀ c,1≤c→c<o.ck→0≤fIdx os (o.cl*1048576+c)):readyL os o=(decide (o.rf=0)||(decide (0≤fIdx os o.rf)&&(decide ((getO os[(fIdx os o.rf).toNat]?).kd=1)&&decide ((getO os[(fIdx os o.rf).toNat]?).st<o.st)))):=by
 have key:readyL os o=true↔(decide (o.rf=0)||(decide (0≤fIdx os o.rf)&&(decide ((getO os[(fIdx os o.rf).toNat]?).kd=1)&&decide ((getO os[(fIdx os o.rf).toNat]?).st<o.st))))=true:=by
  rw [readyL_iff h.by' o,Bool.or_eq_true,Bool.and_eq_true,Bool.and_eq_true,decide_eq_true_eq,decide_eq_true_eq,decide_eq_true_eq,decide_eq_true_eq]
  have hc:o.ck≤1∨∃ p∈os,p.key=o.cl*1048576+(o.ck-1):=by
   rcases Int.lt_or_le 1 o.ck with q|q
   ·exact Or.inr (fIdx_some.1 (hf (o.ck-1) (by omega) (by omega)))
   ·exact Or.inl q
  refine ⟨fun ⟨_,r⟩=>r.via id fun ⟨p,hp,e,k1,k2⟩=>?_,fun r=>⟨hc,r.via id fun ⟨k0,k1,k2⟩=>?_⟩⟩
  ·have h0:=fIdx_some.2 ⟨p,hp,e⟩
   obtain ⟨i,e1,hi,e2⟩:=fIdx_get h0
   rw [e1] at h0 ⊢
   rw [Int.toNat_natCast,List.getElem?_eq_getElem hi]
   have:=byKey_inj h.by' (List.getElem_mem hi) hp (e2.trans e.symm)
   show _∧os[i].kd=1∧os[i].st<o.st
   rw [this]
   exact ⟨h0,k1,k2⟩
  ·obtain ⟨i,e1,hi,e2⟩:=fIdx_get k0
   rw [e1,Int.toNat_natCast,List.getElem?_eq_getElem hi] at k1 k2
   exact ⟨os[i],List.getElem_mem hi,e2,k1,k2⟩
 cases hr:readyL os o
 ·rw [hr] at key
  cases hx:(decide (o.rf=0)||(decide (0≤fIdx os o.rf)&&(decide ((getO os[(fIdx os o.rf).toNat]?).kd=1)&&decide ((getO os[(fIdx os o.rf).toNat]?).st<o.st)))) with
  | false=>rfl
  | true=>exact absurd (key.2 hx) (by decide)
 ·exact (key.1 hr).symm
theorem takeN_hit {os ws:List Opn} {i:Nat} (hl:¬ 120≤os.length) (hi:i<ws.length) (ha:∀ j (hj:j<ws.length),j<i→readyL os ws[j]=false) (hr:readyL os ws[i]=true):takeN ws.length os ws=takeN (ws.eraseIdx i).length (putK ws[i] os) (ws.eraseIdx i):=by
 have hf:ws.findIdx? (readyL os)=some i:=List.findIdx?_eq_some_iff_getElem.2 ⟨hi,hr,fun j hj=>by rw [ha j (by omega) hj];simp⟩
 have hn:(ws.eraseIdx i).length=ws.length-1:=List.length_eraseIdx_of_lt hi
 obtain ⟨n,e⟩:∃ n,ws.length=n+1:=⟨ws.length-1,by omega⟩
 rw [hn,e,takeN,if_neg hl,hf]
 show takeN n (putK (getO ws[i]?) os) _=_
 rw [List.getElem?_eq_getElem hi]
 rfl
theorem takeN_end {os ws:List Opn} {i:Nat} (ha:∀ j (hj:j<ws.length),j<i→readyL os ws[j]=false) (he:i=ws.length∨120≤os.length):takeN ws.length os ws=(os,ws):=by
 cases hn:ws.length with
 | zero=>rfl
 | succ n=>
  rw [takeN]
  split
  ·rfl
  ·rename_i h
   have hi:i=ws.length:=he.resolve_right h
   rw [List.findIdx?_eq_none_iff.2 fun x hx=>by
    obtain ⟨j,hj,rfl⟩:=List.mem_iff_getElem.1 hx
    exact ha j hj (by omega)]
def ref78 (cl:Int) (vL vW:Value) (ss:Int) (dn:Bool) (vK:Value) (n:Nat):Value:=if n<72 then .int .u32 (RV n) else if n=72 then .int .u32 cl else if n=73 then vL else if n=74 then vW else if n=75 then .int .u32 ss else if n=76 then .bool dn else vK
structure RefIs (w:World) (b:Nat) (cl:Int) (vL vW:Value) (ss:Int) (dn:Bool) (vK:Value) (os ws:List Opn):Prop where
 row:RowIs w b 155 78 (ref78 cl vL vW ss dn vK)
 hL:OwnK w 0 vL os
 hW:OwnO w 0 vW ws
theorem RefIs.below {w w':World} {b:Nat} {cl:Int} {vL vW:Value} {ss:Int} {dn:Bool} {vK:Value} {os ws:List Opn} (h:RefIs w b cl vL vW ss dn vK os ws) (hb:Below w.heap.size w w'):RefIs w' b cl vL vW ss dn vK os ws:=⟨h.row.below hb h.row.lt,own_frame h.hL fun g hg=>hb.block g (World.ownsRow.lt h.hL g hg).2,own_frame h.hW fun g hg=>hb.block g (World.ownsRow.lt h.hW g hg).2⟩
theorem RefIs.cl' {w:World} {b:Nat} {cl:Int} {vL vW:Value} {ss:Int} {dn:Bool} {vK:Value} {os ws:List Opn} (h:RefIs w b cl vL vW ss dn vK os ws):w.cell? ⟨b,72,none⟩=some (.int .u32 cl):=h.row.cell (j:=72) (by omega)
theorem RefIs.L {w:World} {b:Nat} {cl:Int} {vL vW:Value} {ss:Int} {dn:Bool} {vK:Value} {os ws:List Opn} (h:RefIs w b cl vL vW ss dn vK os ws):w.cell? ⟨b,73,none⟩=some vL:=h.row.cell (j:=73) (by omega)
theorem RefIs.W {w:World} {b:Nat} {cl:Int} {vL vW:Value} {ss:Int} {dn:Bool} {vK:Value} {os ws:List Opn} (h:RefIs w b cl vL vW ss dn vK os ws):w.cell? ⟨b,74,none⟩=some vW:=h.row.cell (j:=74) (by omega)
end Go.Proofs.YtgccjefbedpmpaaGreatDoor
