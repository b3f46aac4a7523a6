import Derived.Test.YtgccjefbedpmpaaGreatDoorYAdd4
import Derived.Laws.Cover4
import Derived.Laws.IdiomStrings
import Derived.Test.YtgccjefbedpmpaaGreatDoorJKeepS
import Derived.Test.YtgccjefbedpmpaaGreatDoorYSortU12
namespace Go.Proofs.YtgccjefbedpmpaaGreatDoor
open Go.RowKit
set_option maxRecDepth 100000
set_option maxHeartbeats 8000000
variable {G l os ws ws' : List Opn} {W' W2 a w' w2 : World} {X : Nat→Prop} {b cap g i n nb : Nat} {c cl k kind who : Int} {cs : List Int} {f : Nat→Value} {o x : Opn} {t' : Tr} {v v' vW : Value}
theorem on_in (h:x∈onL k [] l):x∈insOf l∧x.rf=k:=by
 have:=(onL_perm k l []).mem_iff.1 h;rw [zw] at this;obtain ⟨h1,h2⟩:=qo.1 this;rw [decide_eq_true_eq] at h2;exact ⟨qo.2 ⟨h1,by simpa using h2.1⟩,h2.2⟩
theorem on_mk (h:x∈insOf l) (e:x.rf=k):x∈onL k [] l:=by
 obtain ⟨h1,h2⟩:=qo.1 h;rw [decide_eq_true_eq] at h2;refine (onL_perm k l []).mem_iff.2 ?_;rw [zw];exact qo.2 ⟨h1,by simpa using ⟨h2,e⟩⟩
theorem told_desc (l:List Opn):∀ (n:Nat) (k:Int),∀ x∈toldR n l k,x∈insOf l∧∃ c∈insOf l,c.rf=k∧Desc (insOf l) c x
 | 0,_,_,h=>by cases h
 | n+1,k,x,h=>by
  obtain ⟨o,ho,hx⟩:=yd.1 (show x∈(onL k [] l).flatMap _ from h);obtain ⟨ho1,ho2⟩:=on_in ho;rcases qu.1 hx with e | q
  ·subst e;exact ⟨ho1,_,ho1,ho2,.self⟩
  ·obtain ⟨h1,c,hc,e,hd⟩:=told_desc l n _ x q;exact ⟨h1,o,ho1,ho2,Desc.trans (.down .self ho1 hc e) hd⟩
theorem SetOk.inj (hs:SetOk l):∀ x∈insOf l,∀ y∈insOf l,x.key=y.key→x=y:=fun _ hx _ hy e=>Qh hs.by' (qo.1 hx).1 (qo.1 hy).1 e
theorem told_nodup {l:List Opn} (hs:SetOk l):∀ (n:Nat) (k:Int),(toldR n l k).Nodup
 | 0,_=>List.nodup_nil
 | n+1,k=>by
  have hU:=hs.up
  have hd:∀ o∈onL k [] l,∀ x∈o::toldR n l o.key,Desc (insOf l) o x:=fun o ho x hx=>by
   rcases qu.1 hx with e | q
   ·subst e;exact .self
   ·obtain ⟨-,c,hc,e,hd⟩:=told_desc l n _ x q;exact Desc.trans (.down .self (on_in ho).1 hc e) hd
  refine List.pairwise_flatMap.2 ⟨fun o ho=>?_,?_⟩
  ·refine js.2 ⟨fun b hb=>?_,told_nodup hs n _⟩;obtain ⟨-,c,hc,e,hd⟩:=told_desc l n _ b hb;have h3:=hd.st hU;have h4:=hU _ hc _ (on_in ho).1 e;intro h5;subst h5;omega
  ·have hn:(onL k [] l).Nodup:=(onL_perm k l []).symm.nodup (jp z8 hs.by'.nodup);refine List.Pairwise.imp_of_mem ?_ hn;intro a b ha hb hne x hx y hy hxy;subst hxy;exact desc_one hU hs.inj (on_in ha).1 (on_in hb).1 hne ((on_in ha).2.trans (on_in hb).2.symm) (hd a ha x hx) (hd b hb x hy)
theorem on_put (h':ByKey (putK o os)) (k:Int):onL k [] (putK o os)=if o.kd=1∧o.rf=k then insD o (onL k [] os) else onL k [] os:=by
 have hpp:(putK o os).Perm (o::os):=by
  unfold putK;refine List.perm_middle.trans (List.Perm.cons o ?_);exact List.filter_append_perm _ _
 have hs1:=onL_sorted k (putK o os) [] .nil fun _ h=>(by cases h);have hs0:=onL_sorted k os [] .nil fun _ h=>(by cases h);have hp1:(onL k [] (putK o os)).Perm ((o::os).filter fun o=>decide (o.kd=1∧o.rf=k)):=(onL_perm k (putK o os) []).trans (hpp.filter _);have hp0:(onL k [] os).Perm (os.filter fun o=>decide (o.kd=1∧o.rf=k)):=onL_perm k os []
 have hU:∀ a∈onL k [] (putK o os),∀ b∈onL k [] (putK o os),¬ ahd b a→¬ ahd a b→a=b:=fun a ha b hb h1 h2=>by
  refine Qh h' (qo.1 (on_in ha).1).1 (qo.1 (on_in hb).1).1 ?_;unfold ahd at h1 h2;omega
 by_cases hc:o.kd=1∧o.rf=k
 ·rw [if_pos hc];rw [kg (by simpa using hc)] at hp1;have hq:(onL k [] (putK o os)).Perm (insD o (onL k [] os)):=hp1.trans ((hp0.symm.cons o).trans (insD_perm o _).symm);exact List.Perm.eq_of_pairwise (le:=fun x y=>¬ ahd y x) (fun a b ha hb h1 h2=>hU a ha b (hq.mem_iff.2 hb) h1 h2) hs1 (insD_sorted hs0 fun x hx=>(on_in hx).2.trans hc.2.symm) hq
 ·rw [if_neg hc];rw [List.filter_cons_of_neg (by simpa using hc)] at hp1;have hq:=hp1.trans hp0.symm;exact List.Perm.eq_of_pairwise (le:=fun x y=>¬ ahd y x) (fun a b ha hb h1 h2=>hU a ha b (hq.mem_iff.2 hb) h1 h2) hs1 hs0 hq
theorem insD_split (o:Opn):∀ l:List Opn,∃ a b,l=a++b∧insD o l=a++o::b∧((∀ x∈l,x.st < o.st)→a=[])
 | []=>⟨[],[],rfl,rfl,fun _=>rfl⟩
 | x::l=>by
  unfold insD;split
  ·rename_i hc;obtain ⟨a,b,e1,e2,-⟩:=insD_split o l;refine ⟨x::a,b,by rw [e1];rfl,by rw [e2];rfl,fun h=>?_⟩;have:=h x (qy ..);omega
  ·exact ⟨[],x::l,rfl,rfl,fun _=>rfl⟩
def Fuel (os:List Opn) (n:Nat) (k:Int):Prop:=∀ x∈insOf os,x.rf=k→1073741824≤x.st+n
theorem Fuel.down (hs:SetOk os) (h:Fuel os (n+1) k) {c:Opn} (hc:c∈insOf os) (e:c.rf=k):Fuel os n c.key:=fun x hx ex=>by
 have h1:=h c hc e;have h2:=hs.up x hx c hc ex;omega
theorem Fuel.pos (hs:SetOk os) (h:Fuel os n k) (hx:x∈insOf os) (e:x.rf=k):∃ m,n=m+1:=by
 have h1:=h x hx e;have h2:=(Qn (hs.ok x (qo.1 hx).1)).2.2.1;exact ⟨n-1,by omega⟩
theorem told_hang {os:List Opn} (hs:SetOk os) {x p:Opn} (hx:x∈insOf os) (e:x.rf=p.key):∀ (n:Nat) (k:Int),Fuel os n k→p∈toldR n os k→x∈toldR n os k
 | 0,_,_,h=>by cases h
 | n+1,k,hf,h=>by
  obtain ⟨c,hc,hp⟩:=yd.1 (show p∈(onL k [] os).flatMap _ from h);obtain ⟨hc1,hc2⟩:=on_in hc;have hd:=hf.down hs hc1 hc2;refine yd.2 ⟨c,hc,zb _ ?_⟩;rcases qu.1 hp with q | q
  ·subst q;obtain ⟨m,rfl⟩:=hd.pos hs hx e;exact yd.2 ⟨x,on_mk hx e,qy ..⟩
  ·exact told_hang hs hx e n _ hd q
theorem fuel_root (hs:SetOk os):Fuel os 1073741824 0:=fun x hx _=>by
 have h2:=(Qn (hs.ok x (qo.1 hx).1)).2.2.1;omega
theorem told_all {os:List Opn} (hs:SetOk os):∀ (n:Nat) (x:Opn),x.st≤n→x∈insOf os→x∈toldR 1073741824 os 0
 | 0,x,hn,hx=>by
  have h2:=(Qn (hs.ok x (qo.1 hx).1)).2.2.1;omega
 | n+1,x,hn,hx=>by
  rcases hs.ref x (qo.1 hx).1 with k | ⟨p,hp,k1,k2,k3⟩
  ·exact yd.2 ⟨x,on_mk hx k,qy ..⟩
  ·have hpi:p∈insOf os:=qo.2 ⟨hp,by simpa using k2⟩;exact told_hang hs hx k1.symm _ _ (fuel_root hs) (told_all hs n p (by omega) hpi)
def Right (k:Int) (o:Opn) (a:List Opn):Prop:=(a=[]∧o.rf=k)∨∃ a' x,a=a'++[x]∧x.key=o.rf
theorem noOn_new (hs:SetOk os) (hok:o.ok=true) (hn:∀ x∈os,x.key≠o.key):∀ x∈os,x.rf≠o.key:=fun x hx e=>by
 rcases hs.ref x hx with k | ⟨p,hp,k1,-,-⟩
 ·have:=okKey_pos (okKey_of hok);omega
 ·exact hn p hp (k1.trans e)
theorem told_leaf (hs:SetOk os) (hok:o.ok=true) (hn:∀ x∈os,x.key≠o.key) (n:Nat):toldR n (putK o os) o.key=[]:=by
 cases n with
 | zero=>rfl
 | succ n=>
  have h0:onL o.key [] (putK o os)=[]:=List.eq_nil_iff_forall_not_mem.2 fun x hx=>by
   obtain ⟨h1,h2⟩:=on_in hx;rcases kw.1 (qo.1 h1).1 with e | q
   ·subst e;exact (Qn hok).2.2.2 h2.symm
   ·exact noOn_new hs hok hn x q h2
  show (onL o.key [] (putK o os)).flatMap _=[];rw [h0];rfl
theorem told_put {os:List Opn} (hs:SetOk os) {o:Opn} (hs':SetOk (putK o os)) (hok:o.ok=true) (hn:∀ x∈os,x.key≠o.key) (hk:o.kd=1) (late:Prop) (hlate:late→∀ x∈os,x.st < o.st):∀ (n:Nat) (k:Int),Fuel (putK o os) n k →
  (o.rf≠k∧(∀ x∈toldR n os k,x.key≠o.rf)∧toldR n (putK o os) k=toldR n os k)∨∃ a b,toldR n os k=a++b∧toldR n (putK o os) k=a++o::b∧(o.rf=k∨∃ x∈a,x.key=o.rf)∧(late→Right k o a)
 | 0,k,hf=>by
  by_cases e:o.rf=k
  ·obtain ⟨m,hm⟩:=hf.pos hs' (x:=o) (qo.2 ⟨kw.2 (Or.inl rfl),by simpa using hk⟩) e;cases hm
  ·exact Or.inl ⟨e,fun _ h=>(by cases h),rfl⟩
 | n+1,k,hf=>by
  have sub:∀ x∈insOf os,x∈insOf (putK o os):=fun x hx=>by
   obtain ⟨h1,h2⟩:=qo.1 hx;exact qo.2 ⟨kw.2 (Or.inr h1),h2⟩
  have ih:∀ x∈onL k [] os,(o.rf≠x.key∧(∀ y∈toldR n os x.key,y.key≠o.rf)∧toldR n (putK o os) x.key=toldR n os x.key)∨∃ a b,toldR n os x.key=a++b∧toldR n (putK o os) x.key=a++o::b∧(o.rf=x.key∨∃ y∈a,y.key=o.rf)∧(late→Right x.key o a):=fun x hx=>by
   obtain ⟨h1,h2⟩:=on_in hx;exact told_put hs hs' hok hn hk late hlate n x.key (hf.down hs' (sub x h1) h2)
  have hU:=hs.up;have e1:∀ l,toldR (n+1) l k=(onL k [] l).flatMap fun o=>o::toldR n l o.key:=fun _=>rfl;by_cases hc:o.rf=k
  ·right
   have same:∀ x∈onL k [] os,toldR n (putK o os) x.key=toldR n os x.key:=fun x hx=>by
    obtain ⟨h1,h2⟩:=on_in hx;rcases ih x hx with ⟨-,-,q⟩ | ⟨a,b,q1,-,q3,-⟩
    ·exact q
    ·exfalso;rcases q3 with q | ⟨y,hy,q⟩
     ·have:=(Qn (hs.ok x (qo.1 h1).1)).2.2.2;exact this (by rw [← q,hc,h2])
     ·obtain ⟨m1,c,hcm,ec,hd⟩:=told_desc os n x.key y (by rw [q1];exact zh _ hy);have d:Desc (insOf os) x y:=Desc.trans (.down .self h1 hcm ec) hd;have:=d.st hU;have:=hU x h1 y m1 (by rw [h2,q,hc]);omega
   obtain ⟨a,b,s1,s2,s3⟩:=insD_split o (onL k [] os)
   have fm:∀ l:List Opn,(∀ x∈l,x∈onL k [] os)→(l.flatMap fun o_1=>o_1::toldR n (putK o os) o_1.key)=l.flatMap fun o_1=>o_1::toldR n os o_1.key:=fun l hl=>by
    induction l with
    | nil=>rfl
    | cons x l ihl=>rw [ke,ke,ihl fun y hy=>hl y (zb _ hy),same x (hl x (qy ..))]
   refine ⟨a.flatMap fun x=>x::toldR n os x.key,b.flatMap fun x=>x::toldR n os x.key,?_,?_,Or.inl hc,fun hl=>?_⟩
   ·rw [e1,s1,List.flatMap_append]
   ·rw [e1,on_put hs'.by' k,if_pos ⟨hk,hc⟩,s2,List.flatMap_append,ke,told_leaf hs hok hn n,fm a fun x hx=>by rw [s1];exact zh _ hx,fm b fun x hx=>by rw [s1];exact jo _ hx];rfl
   ·have:a=[]:=s3 fun x hx=>hlate hl x (qo.1 (on_in hx).1).1;subst this;exact Or.inl ⟨rfl,hc⟩
  ·have hq:onL k [] (putK o os)=onL k [] os:=by rw [on_put hs'.by' k,if_neg fun h=>hc h.2]
   have hnd:=told_nodup hs (n+1) k;rw [e1] at hnd;rw [e1,e1,hq]
   have key:∀ l:List Opn,(∀ x∈l,x∈onL k [] os)→(l.flatMap fun x=>x::toldR n os x.key).Nodup →
     ((∀ x∈l.flatMap fun x=>x::toldR n os x.key,x.key≠o.rf)∧(l.flatMap fun x=>x::toldR n (putK o os) x.key)=l.flatMap fun x=>x::toldR n os x.key)∨∃ a b,(l.flatMap fun x=>x::toldR n os x.key)=a++b∧(l.flatMap fun x=>x::toldR n (putK o os) x.key)=a++o::b∧(∃ x∈a,x.key=o.rf)∧(late→Right k o a):=fun l=>by
    induction l with
    | nil=>intro _ _;exact Or.inl ⟨fun _ h=>(by cases h),rfl⟩
    | cons x l ihl=>
     intro hm hnd;rw [ke] at hnd;obtain ⟨-,n2,n3⟩:=List.nodup_append.1 hnd;have hr:=ihl (fun y hy=>hm y (zb _ hy)) n2;rw [ke,ke];rcases ih x (hm x (qy ..)) with ⟨q1,q2,q3⟩ | ⟨a,b,q1,q2,q3,q4⟩
     ·rw [q3];rcases hr with ⟨r1,r2⟩ | ⟨a,b,r1,r2,⟨z,hz,ez⟩,r4⟩
      ·refine Or.inl ⟨fun y hy=>?_,by rw [r2]⟩;rcases zd.1 hy with g | g
       ·rcases qu.1 g with g | g
        ·rw [g];exact fun e=>q1 e.symm
        ·exact q2 y g
       ·exact r1 y g
      ·refine Or.inr ⟨x::toldR n os x.key++a,b,by rw [r1,qr],by rw [r2,qr],⟨z,jo _ hz,ez⟩,fun hl=>?_⟩;rcases r4 hl with ⟨-,g⟩ | ⟨a',y,rfl,g⟩
       ·exact absurd g hc
       ·exact Or.inr ⟨x::toldR n os x.key++a',y,by rw [qr],g⟩
     ·have hz:∃ z∈x::a,z.key=o.rf:=by
       rcases q3 with g | ⟨y,hy,g⟩
       ·exact ⟨x,qy ..,g.symm⟩
       ·exact ⟨y,zb _ hy,g⟩
      have hz1:=hz;obtain ⟨z,hz,ez⟩:=hz
      have zm:z∈x::toldR n os x.key:=by
       rw [q1];rcases qu.1 hz with g | g
       ·rw [g];exact qy ..
       ·exact zb _ (zh _ g)
      have zi:∀ u∈onL k [] os,∀ z∈u::toldR n os u.key,z∈insOf os:=fun u hu z hz=>by
       rcases qu.1 hz with g | g
       ·rw [g];exact (on_in hu).1
       ·exact (told_desc os n _ z g).1
      have r2:(l.flatMap fun x=>x::toldR n (putK o os) x.key)=l.flatMap fun x=>x::toldR n os x.key:=by
       rcases hr with ⟨-,r2⟩ | ⟨a2,b2,r1,-,⟨z2,hz2,ez2⟩,-⟩
       ·exact r2
       ·exfalso;have m2:z2∈l.flatMap fun x=>x::toldR n os x.key:=by rw [r1];exact zh _ hz2
        obtain ⟨u,hu,hzu⟩:=yd.1 m2;have:z=z2:=hs.inj z (zi x (hm x (qy ..)) z zm) z2 (zi u (hm u (zb _ hu)) z2 hzu) (ez.trans ez2.symm);subst this;exact n3 z zm z m2 rfl
      refine Or.inr ⟨x::a,b++l.flatMap fun x=>x::toldR n os x.key,?_,?_,hz1,fun hl=>?_⟩
      ·rw [q1];simp
      ·rw [q2,r2];simp
      ·rcases q4 hl with ⟨g1,g2⟩ | ⟨a',y,g1,g2⟩
       ·subst g1;exact Or.inr ⟨[],x,rfl,g2.symm⟩
       ·subst g1;exact Or.inr ⟨x::a',y,rfl,g2⟩
   rcases key _ (fun _ h=>h) hnd with ⟨r1,r2⟩ | ⟨a,b,r1,r2,r3,r4⟩
   ·exact Or.inl ⟨hc,r1,r2⟩
   ·exact Or.inr ⟨a,b,r1,r2,Or.inr r3,r4⟩
theorem gone_put {x:Int}:x∈goneOf (putK o os)↔(¬ o.kd=1∧x=o.rf)∨x∈goneOf os:=by
 unfold goneOf;constructor
 ·intro h;obtain ⟨y,hy,rfl⟩:=jt.1 h;obtain ⟨h1,h2⟩:=qo.1 hy;rw [decide_eq_true_eq] at h2;rcases kw.1 h1 with e | q
  ·subst e;exact Or.inl ⟨h2,rfl⟩
  ·exact Or.inr (jt.2 ⟨y,qo.2 ⟨q,by simpa using h2⟩,rfl⟩)
 ·rintro (⟨h1,rfl⟩ | h)
  ·exact jt.2 ⟨o,qo.2 ⟨kw.2 (Or.inl rfl),by simpa using h1⟩,rfl⟩
  ·obtain ⟨y,hy,rfl⟩:=jt.1 h;obtain ⟨h1,h2⟩:=qo.1 hy;exact jt.2 ⟨y,qo.2 ⟨kw.2 (Or.inr h1),h2⟩,rfl⟩
theorem gone_has {x:Int} (h:x∈goneOf os):∃ y∈os,y.rf=x:=by
 obtain ⟨y,hy,rfl⟩:=jt.1 h;exact ⟨y,(qo.1 hy).1,rfl⟩
theorem gone_same (hk:o.kd=1) (k:Int):(goneOf (putK o os)).contains k=(goneOf os).contains k:=by
 have:k∈goneOf (putK o os)↔k∈goneOf os:=gone_put.trans ⟨fun h=>h.resolve_left fun q=>q.1 hk,Or.inr⟩;rw [Bool.eq_iff_iff,ji,ji];exact this
theorem vis_ins (hs:SetOk os) (hs':SetOk (putK o os)) (hok:o.ok=true) (hn:∀ x∈os,x.key≠o.key) (hk:o.kd=1) (late:Prop) (hlate:late→∀ x∈os,x.st < o.st) :
  ∃ a b:List Opn,toldR 1073741824 os 0=a++b∧visR os=(a.filter fun x=>!(goneOf os).contains x.key)++(b.filter fun x=>!(goneOf os).contains x.key)∧visR (putK o os)=(a.filter fun x=>!(goneOf os).contains x.key)++o::(b.filter fun x=>!(goneOf os).contains x.key)∧(late→Right 0 o a):=by
 have hg:(goneOf os).contains o.key=false:=by
  rw [Bool.eq_false_iff,ne_eq,ji];intro h;obtain ⟨y,hy,e⟩:=gone_has h;exact noOn_new hs hok hn y hy e
 have fin:∀ a b:List Opn,toldR 1073741824 os 0=a++b→toldR 1073741824 (putK o os) 0=a++o::b→visR os=(a.filter fun x=>!(goneOf os).contains x.key)++(b.filter fun x=>!(goneOf os).contains x.key)∧visR (putK o os)=(a.filter fun x=>!(goneOf os).contains x.key)++o::(b.filter fun x=>!(goneOf os).contains x.key):=fun a b e1 e2=>by
  unfold visR;simp only [gone_same hk];rw [e1,e2,zt,zt,kg (by rw [hg];rfl)];exact ⟨rfl,rfl⟩
 rcases told_put hs hs' hok hn hk late hlate 1073741824 0 (fuel_root hs') with ⟨h1,h2,-⟩ | ⟨a,b,e1,e2,-,h4⟩
 ·exfalso;have hi:o∈insOf (putK o os):=qo.2 ⟨kw.2 (Or.inl rfl),by simpa using hk⟩;rcases hs'.ref o (kw.2 (Or.inl rfl)) with k | ⟨p,hp,k1,k2,k3⟩
  ·exact h1 k
  ·rcases kw.1 hp with e | q
   ·subst e;omega
   ·have hpi:p∈insOf os:=qo.2 ⟨q,by simpa using k2⟩;exact h2 p (told_all hs p.st.toNat p (by omega) hpi) k1
 ·obtain ⟨f1,f2⟩:=fin a b e1 e2;exact ⟨a,b,e1,f1,f2,h4⟩
theorem vis_nodup (hs:SetOk os):(visR os).Pairwise fun x y=>x.key≠y.key:=by
 have h1:(visR os).Nodup:=jp z8 (told_nodup hs _ _);refine List.Pairwise.imp_of_mem ?_ h1;intro a b ha hb hne e;exact hne (Qh hs.by' (visR_mem ha).1 (visR_mem hb).1 e)
theorem vis_own (hs:SetOk os) (hs':SetOk (putK o os)) (hok:o.ok=true) (hn:∀ x∈os,x.key≠o.key) (hk:o.kd=1) (hl:∀ x∈os,x.st < o.st) (at':Nat) (ha:at'≤(visR os).length) (hr:o.rf=refAt (visR os) at'):visR (putK o os)=(visR os).take at'++o::(visR os).drop at':=by
 obtain ⟨a,b,e1,e2,e3,e4⟩:=vis_ins hs hs' hok hn hk True fun _=>hl;have hnd:=vis_nodup hs
 suffices h:(a.filter fun x=>!(goneOf os).contains x.key).length=at' by
  rw [e3,e2,kf (by omega),List.drop_append_of_le_length (by omega),ja (by omega),yq (by omega)];rfl
 unfold refAt at hr;rcases e4 trivial with ⟨rfl,h0⟩ | ⟨a',x,rfl,hx⟩
 ·by_cases h1:(0:Int) < (at':Int)
  ·rw [if_pos h1] at hr;have hlt:((at':Int)-1).toNat < (visR os).length:=by omega
   rw [qk hlt] at hr;have:=okKey_pos (okKey_of (hs.ok _ (visR_mem (qn hlt)).1));rw [h0] at hr;have hr:0=(visR os)[((at':Int)-1).toNat].key:=hr;omega
  ·show 0=at';omega
 ·by_cases h1:(0:Int) < (at':Int)
  ·rw [if_pos h1] at hr;have hlt:((at':Int)-1).toNat < (visR os).length:=by omega
   rw [qk hlt] at hr;have hr:o.rf=(visR os)[((at':Int)-1).toNat].key:=hr;have hm:=qn hlt;have hxo:x∈insOf os:=toldR_mem os 1073741824 0 x (by rw [e1];exact zh _ (jo _ (zo.2 rfl)));have hxe:x=(visR os)[((at':Int)-1).toNat]:=Qh hs.by' (qo.1 hxo).1 (visR_mem hm).1 (hx.trans hr)
   have hxg:(!(goneOf os).contains x.key)=true:=by
    have:=(qo.1 (show (visR os)[((at':Int)-1).toNat]∈visR os from hm)).2;rw [← hxe] at this;exact this
   have hfx:List.filter (fun x=>!(goneOf os).contains x.key) [x]=[x]:=kg (p:=fun x:Opn=>!(goneOf os).contains x.key) hxg;rw [zt,hfx] at e2 ⊢;rw [qe,zp];have hlen:(a'.filter fun x=>!(goneOf os).contains x.key).length < (visR os).length:=by rw [e2];simp only [qe,zp];omega
   have hget:(visR os)[(a'.filter fun x=>!(goneOf os).contains x.key).length]=x:=by
    simp only [e2];simp
   rcases kl (a'.filter fun x=>!(goneOf os).contains x.key).length ((at':Int)-1).toNat with q | q | q
   ·have:=zl.1 hnd _ _ hlen hlt q;rw [hget,← hxe] at this;exact absurd rfl this
   ·omega
   ·have:=zl.1 hnd _ _ hlt hlen q;rw [hget,← hxe] at this;exact absurd rfl this
  ·rw [if_neg h1] at hr;have hxo:x∈insOf os:=toldR_mem os 1073741824 0 x (by rw [e1];exact zh _ (jo _ (zo.2 rfl)));have:=okKey_pos (okKey_of (hs.ok _ (qo.1 hxo).1));omega
theorem vis_del (hs':SetOk (putK o os)) (hk:¬ o.kd=1):visR (putK o os)=(visR os).filter fun x=>decide (x.key≠o.rf):=by
 have ht:∀ (n:Nat) (k:Int),toldR n (putK o os) k=toldR n os k:=fun n=>by
  induction n with
  | zero=>intro k;rfl
  | succ n ih=>
   intro k;show (onL k [] (putK o os)).flatMap _=(onL k [] os).flatMap _;rw [on_put hs'.by' k,if_neg fun h=>hk h.1];congr 1
   funext x
   rw [ih]
 unfold visR;rw [ht,List.filter_filter];refine List.filter_congr fun x _=>?_;have:=gone_put (o:=o) (os:=os) (x:=x.key);by_cases h1:x.key=o.rf
 ·rw [ji.2 (this.2 (Or.inl ⟨hk,h1⟩))];simp [h1]
 ·have e:(goneOf (putK o os)).contains x.key=(goneOf os).contains x.key:=by
   rw [Bool.eq_iff_iff,ji,ji];exact this.trans ⟨fun q=>q.resolve_left fun q=>h1 q.2,Or.inr⟩
  rw [e];simp [h1]
theorem filt_one (h:l.Pairwise fun x y=>x.key≠y.key) (k:Int):(∀ i (hi:i < l.length),l[i].key=k→(l.filter fun x=>decide (x.key≠k))=l.take i++l.drop (i+1))∧((∀ x∈l,x.key≠k)→(l.filter fun x=>decide (x.key≠k))=l):=by
 refine ⟨?_,fun hx=>je.2 fun x m=>by simpa using hx x m⟩
 induction l with
 | nil=>intro i hi;cases hi
 | cons a l ih=>
  obtain ⟨h1,h2⟩:=js.1 h;intro i hi e
  cases i with
  | zero=>
   have e:a.key=k:=e;rw [List.filter_cons_of_neg (by simp [e])];show _=l;exact je.2 fun x m=>by have:=h1 x m;rw [e] at this;simpa using fun q=>this q.symm
  | succ i=>
   have hi':i < l.length:=by simpa using hi
   have e:l[i].key=k:=e;have:=h1 _ (qn hi');rw [e] at this;rw [kg (by simpa using this),ih h2 i hi' e];rfl
def setOf (G:List Opn):List Opn:=G.foldl (fun s o=>putK o s) []
theorem setOf_snoc (G:List Opn) (o:Opn):setOf (G++[o])=putK o (setOf G):=by unfold setOf;rw [List.foldl_append];rfl
theorem fold_mem {x:Opn}:∀ (G s:List Opn),x∈G.foldl (fun s o=>putK o s) s↔x∈G∨x∈s
 | [],s=>by simp
 | o::G,s=>by
  rw [List.foldl_cons,fold_mem G,kw,qu];exact ⟨fun h=>h.elim (fun q=>Or.inl (Or.inr q)) fun q=>q.elim (fun q=>Or.inl (Or.inl q)) Or.inr,fun h=>h.elim (fun q=>q.elim (fun q=>Or.inr (Or.inl q)) Or.inl) fun q=>Or.inr (Or.inr q)⟩
theorem Qm:x∈setOf G↔x∈G:=(fold_mem G []).trans ⟨fun h=>h.resolve_right fun q=>(by cases q),Or.inl⟩
theorem fold_len:∀ (G s:List Opn),(G.foldl (fun s o=>putK o s) s).length=G.length+s.length
 | [],s=>by simp
 | o::G,s=>by rw [List.foldl_cons,fold_len G,putK_len,qp];omega
theorem setOf_len (G:List Opn):(setOf G).length=G.length:=fold_len G []
def Hist (L:List Opn):Prop:=∀ P:List Opn→Prop,P []→(∀ (G:List Opn) (o:Opn),P G→o.ok=true→(∀ x∈G,x.key≠o.key)→readyL (setOf G) o=true→(o.kd=1→97≤o.ch∧o.ch≤122)→G.length < 30→P (G++[o]))→P L
theorem Hist.nil:Hist []:=fun _ h _=>h
theorem Hist.snoc {G:List Opn} {o:Opn} (h:Hist G) (a:o.ok=true) (b:∀ x∈G,x.key≠o.key) (c:readyL (setOf G) o=true) (d:o.kd=1→97≤o.ch∧o.ch≤122) (e:G.length < 30):Hist (G++[o]):=fun P n s=>s G o (h P n s) a b c d e
theorem Hist.ind {M:∀ L,Hist L→Prop} (nil:M [] .nil) (snoc:∀ {G o} (h:Hist G) a b c d e,M G h→M (G++[o]) (h.snoc a b c d e)) {L:List Opn} (h:Hist L):M L h:=
 (h (fun x=>∃ h,M x h) ⟨_,nil⟩ fun _ _ ⟨k,m⟩ a b c d e=>⟨_,snoc k a b c d e m⟩).elim fun _ m=>m
theorem Hist.len (h:Hist G):G.length≤30:=by
 induction h using Hist.ind with
 | nil=>exact qs _
 | snoc _ _ _ _ _ h=>rw [qe,zp];omega
theorem Hist.set (h:Hist G):SetOk (setOf G):=by
 induction h using Hist.ind with
 | nil=>exact SetOk.nil
 | snoc h ho hn hr _ hl ih=>rw [setOf_snoc];exact ih.put ho (fun x hx=>hn x (Qm.1 hx)) (by rw [setOf_len];omega) hr
theorem snoc_take {P:List Opn} (hi:i < G.length) (e:G=P++[o]):(i < P.length∧G[i]?=P[i]?∧G.take i=P.take i)∨(i=P.length∧G[i]?=some o∧G.take i=P):=by
 subst e;rw [qe,zp] at hi;rcases zr i P.length with q | q
 ·exact Or.inl ⟨q,yv q,by rw [kf (by omega)]⟩
 ·have:i=P.length:=by omega
  subst this;exact Or.inr ⟨rfl,by simp,by simp⟩
structure Step (P:List Opn) (o:Opn):Prop where
 pre:Hist P
 ok:o.ok=true
 new:∀ x∈P,x.key≠o.key
 ready:readyL (setOf P) o=true
 low:o.kd=1→97≤o.ch∧o.ch≤122
 len:P.length < 30
theorem Hist.step (h:Hist G):∀ {i:Nat} (hi:i < G.length),Step (G.take i) G[i]:=by
 induction h using Hist.ind with
 | nil=>intro i hi;cases hi
 | @snoc P o hP ho hn hr hl hz ih=>
  intro i hi;rcases snoc_take hi rfl with ⟨q,e1,e2⟩ | ⟨q,e1,e2⟩
  ·rw [qk hi,qk q,jx] at e1;rw [e1,e2];exact ih q
  ·rw [qk hi,jx] at e1;rw [e1,e2];exact ⟨hP,ho,hn,hr,hl,hz⟩
structure RepOk (G os ws:List Opn) (cl:Int):Prop where
 book:BookOk os ws
 sub:∀ x∈os,x∈G
 wsub:∀ x∈ws,x∈G
 mine:∀ x∈G,x.cl=cl→x∈os
 calm:∀ x∈ws,readyL os x=false
theorem RepOk.nil (cl:Int):RepOk [] [] [] cl:=⟨BookOk.nil,fun _ h=>(by cases h),fun _ h=>(by cases h),fun _ h=>(by cases h),fun _ h=>(by cases h)⟩
theorem RepOk.grow (h:RepOk G os ws cl) (ho:o.cl≠cl):RepOk (G++[o]) os ws cl:=
 ⟨h.book,fun x hx=>zh _ (h.sub x hx),fun x hx=>zh _ (h.wsub x hx),fun x hx e=>by
  rcases zd.1 hx with q | q
  ·exact h.mine x q e
  ·rw [zo.1 q] at e;exact absurd e ho,h.calm⟩
theorem ready_mono {a b:List Opn} (ha:ByKey a) (hb:ByKey b) (hs:∀ x∈a,x∈b) (h:readyL a o=true):readyL b o=true:=by
 obtain ⟨r1,r2⟩:=(Qt ha o).1 h;exact (Qt hb o).2 ⟨r1.via id fun ⟨p,hp,k⟩=>⟨p,hs p hp,k⟩,r2.via id fun ⟨p,hp,k⟩=>⟨p,hs p hp,k⟩⟩
theorem takeN_calm (h:∀ x∈ws,readyL os x=false) (n:Nat):takeN n os ws=(os,ws):=by
 cases n with
 | zero=>rfl
 | succ n=>
  rw [takeN];split
  ·rfl
  ·rw [List.findIdx?_eq_none_iff.2 fun x hx=>h x hx]
theorem RepOk.write (h:RepOk G os ws cl) (hG:Hist G) (hl:G.length < 30) (hcl:1≤cl∧cl≤1048575) (hr:roomL cl os=false) (ho:OwnRf os o) (hlow:o.kd=1→97≤o.ch∧o.ch≤122) :
  writeN cl os ws o=(ownL cl os o,0,(putK (ownL cl os o) os,ws))∧Hist (G++[ownL cl os o])∧RepOk (G++[ownL cl os o]) (putK (ownL cl os o) os) ws cl∧(∀ x∈os,x.st < (ownL cl os o).st)∧(ownL cl os o).cl=cl:=by
 have hok:=own_ok h.book.set hcl hr ho.1 ho.2;have hrd:=own_ready (cl:=cl) h.book.set ho.1
 have hnew:∀ x∈G,x.key≠(ownL cl os o).key:=fun x hx e=>by
  have k1:=Qn (hG.set.ok x (Qm.2 hx));have k2:=Qn hok;obtain ⟨e1,-⟩:=key_parts (a:=x.cl) (c:=x.ck) (a':=(ownL cl os o).cl) (c':=(ownL cl os o).ck) (by omega) (by omega) e;exact own_key h.book.set hr x (h.mine x hx e1) e
 have hst:∀ x∈os,x.st < (ownL cl os o).st:=fun x hx=>by
  have:=(lastS_spec os 0).2 x hx;show x.st < lastS os 0+1;omega
 have hby:ByKey (putK (ownL cl os o) os):=putK_by h.book.set.by' fun x hx=>hnew x (h.sub x hx)
 have hcalm:∀ x∈ws,readyL (putK (ownL cl os o) os) x=false:=fun x hx=>by
  cases hq:readyL (putK (ownL cl os o) os) x with
  | false=>rfl
  | true=>
   exfalso;have h0:=h.calm x hx;have hxG:=Qm.2 (h.wsub x hx);obtain ⟨r1,r2⟩:=(Qt hby x).1 hq
   have:readyL os x=true:=(Qt h.book.set.by' x).2 ⟨by
    rcases jg 1 x.ck with g | g
    ·rcases r1 with r | ⟨p,hp,e⟩
     ·exact Or.inl r
     ·rcases kw.1 hp with q | q
      ·obtain ⟨p',hp',e'⟩:=hG.set.gap x hxG g;exfalso;rw [q] at e;refine hnew p' (Qm.1 hp') ?_;rw [e',e];unfold Opn.key;omega
      ·exact Or.inr ⟨p,q,e⟩
    ·exact Or.inl g,by
    rcases hG.set.ref x hxG with g | ⟨p',hp',e',-,-⟩
    ·exact Or.inl g
    ·rcases r2 with r | ⟨p,hp,e,k⟩
     ·exact Or.inl r
     ·rcases kw.1 hp with q | q
      ·exfalso;rw [q] at e;exact hnew p' (Qm.1 hp') (e'.trans e.symm)
      ·exact Or.inr ⟨p,q,e,k⟩⟩
   rw [h0] at this;cases this
 have hless:lessKey (ownL cl os o).key ws=ws:=je.2 fun x hx=>by simpa using hnew x (h.wsub x hx)
 have hbk:BookOk (putK (ownL cl os o) os) ws:=by have:=own_put h.book hcl hr ho;rwa [hless] at this
 refine ⟨?_,.snoc hG hok hnew (ready_mono h.book.set.by' hG.set.by' (fun x hx=>Qm.2 (h.sub x hx)) hrd) hlow hl,⟨hbk,fun x hx=>?_,fun x hx=>zh _ (h.wsub x hx),fun x hx e=>?_,hcalm⟩,hst,rfl⟩
 ·unfold writeN;rw [hr,hless,takeN_calm hcalm];rfl
 ·rcases kw.1 hx with q | q
  ·rw [q];exact jo _ (zo.2 rfl)
  ·exact zh _ (h.sub x q)
 ·rcases zd.1 hx with q | q
  ·exact kw.2 (Or.inr (h.mine x q e))
  ·exact kw.2 (Or.inl (zo.1 q))
theorem takeN_sub {G:List Opn} (hl:G.length≤30):∀ (n:Nat) {os ws:List Opn},BookOk os ws→(∀ x∈os,x∈G)→(∀ x∈ws,x∈G)→ws.length≤n →
  (∀ x∈os,x∈(takeN n os ws).1)∧(∀ x∈(takeN n os ws).1,x∈G)∧(∀ x∈(takeN n os ws).2,x∈G)∧∀ x∈(takeN n os ws).2,readyL (takeN n os ws).1 x=false
 | 0,os,ws,_,h1,h2,hn=>by
  have:ws=[]:=zy.1 (by omega);subst this;exact ⟨fun _ h=>h,h1,h2,fun _ h=>(by cases h)⟩
 | n+1,os,ws,hb,h1,h2,hn=>by
  rw [takeN];have hlen:=nodup_len hb.set.by'.nodup h1
  rw [if_neg (by omega)]
  cases hi:ws.findIdx? (readyL os) with
  | none=>exact ⟨fun _ h=>h,h1,h2,fun x hx=>List.findIdx?_eq_none_iff.1 hi x hx⟩
  | some i=>
   have hnx:=hb.next (by omega) hi;obtain ⟨hi1,-,-⟩:=zx.1 hi;have e:getO ws[i]?=ws[i]:=by rw [qk hi1];rfl
   obtain ⟨k1,k2⟩:=takeN_sub hl n hnx (fun x hx=>by
    rcases kw.1 hx with q | q
    ·rw [q,e];exact h2 _ (qn hi1)
    ·exact h1 x q) (fun x hx=>h2 x (jy hx)) (by rw [List.length_eraseIdx_of_lt hi1];omega)
   exact ⟨fun x hx=>k1 x (kw.2 (Or.inr hx)),k2⟩
theorem RepOk.add (h:RepOk G os ws cl) (hl:G.length≤30) (ho:o∈G):RepOk G (addN os ws o).2.1 (addN os ws o).2.2 cl:=by
 have hok:=addN_ok (o:=o) h.book
 suffices k:(∀ x∈os,x∈(addN os ws o).2.1)∧(∀ x∈(addN os ws o).2.1,x∈G)∧(∀ x∈(addN os ws o).2.2,x∈G)∧∀ x∈(addN os ws o).2.2,readyL (addN os ws o).2.1 x=false from ⟨hok,k.2.1,k.2.2.1,fun x hx e=>k.1 x (h.mine x hx e),k.2.2.2⟩
 have same:(∀ x∈os,x∈os)∧(∀ x∈os,x∈G)∧(∀ x∈ws,x∈G)∧∀ x∈ws,readyL os x=false:=⟨fun _ h=>h,h.sub,h.wsub,h.calm⟩;unfold addN;split
 ·exact same
 ·rename_i h0;split
  ·exact same
  ·rename_i h1;simp only [Bool.not_eq_false] at h0;simp only [Bool.not_eq_true] at h1;split
   ·rename_i h2;split
    ·exact same
    ·rename_i h3
     obtain ⟨k1,k2⟩:=takeN_sub hl ws.length (add_put h.book h0 h1 h3 h2) (fun x hx=>by
      rcases kw.1 hx with q | q
      ·rw [q];exact ho
      ·exact h.sub x q) h.wsub (qb _)
     exact ⟨fun x hx=>k1 x (kw.2 (Or.inr hx)),k2⟩
   ·rename_i h2;split
    ·exact same
    ·refine ⟨fun _ h=>h,h.sub,fun x hx=>?_,fun x hx=>?_⟩
     ·rcases kw.1 hx with q | q
      ·rw [q];exact ho
      ·exact h.wsub x q
     ·rcases kw.1 hx with q | q
      ·rw [q];simpa using h2
      ·exact h.calm x q
theorem Hist.low (h:Hist G):∀ x∈G,x.kd=1→97≤x.ch∧x.ch≤122:=fun x hx=>by
 obtain ⟨i,hi,rfl⟩:=qw.1 hx;exact (h.step hi).low
def Low (cs:List Int):Prop:=∀ c∈cs,97≤c∧c≤122
def lowS (cs:List Int):ByteArray:=⟨(cs.map fun c=>UInt8.ofNat c.toNat).toArray⟩
theorem encode_low (h:97≤c∧c≤122):Lib.encodeRune c=[UInt8.ofNat c.toNat]:=by
 obtain ⟨n,rfl⟩:∃ n:Nat,c=n:=⟨c.toNat,by omega⟩;have h1:97≤n:=by omega
 have h2:n≤122:=by omega
 obtain ⟨k,rfl⟩:∃ k,n=97+k:=⟨n-97,by omega⟩;have hk:k < 26:=by omega
 have all:∀ k,k < 26→Lib.encodeRune ((97+k:Nat):Int)=[UInt8.ofNat ((97+k:Nat):Int).toNat]:=by decide
 exact all k hk
theorem encode_low2 (h:97≤c∧c≤122):Utf8.encode c=⟨#[UInt8.ofNat c.toNat]⟩:=by
 unfold Utf8.encode Utf8.valid;have h1:(decide (0≤c)&&decide (c < 0xD800))=true:=by simp;omega
 simp only [h1,Bool.true_or,if_true];rw [if_pos (by omega)]
theorem strOf_low:∀ {l:List Opn},Low (l.map Opn.ch)→(⟨(strOf l).toArray⟩:ByteArray)=lowS (l.map Opn.ch):=fun {l} h=>by
 unfold lowS;congr 2
 induction l with
 | nil=>rfl
 | cons a l ih=>
  have h1:=h a.ch (by simp);show Lib.encodeRune a.ch++strOf l=_;rw [ih fun c hc=>h c (by simp only [List.map_cons,qu];exact Or.inr hc),encode_low h1];rfl
theorem runesBytes_low (h:Low cs):runesBytes cs=lowS cs:=by
 have key:∀ (cs:List Int) (s:List UInt8),Low cs→cs.foldl (fun r n=>r++Utf8.encode n) (⟨s.toArray⟩:ByteArray)=⟨(s++cs.map fun c=>UInt8.ofNat c.toNat).toArray⟩:=fun cs=>by
  induction cs with
  | nil=>intro s _;simp
  | cons c cs ih=>
   intro s h;rw [List.foldl_cons,encode_low2 (h c (qy ..))]
   have e:(⟨s.toArray⟩:ByteArray)++(⟨#[UInt8.ofNat c.toNat]⟩:ByteArray)=⟨(s++[UInt8.ofNat c.toNat]).toArray⟩:=by
    apply ByteArray.ext;rw [ByteArray.data_append];simp
   rw [e,ih _ fun x hx=>h x (zb _ hx)];simp
 exact key cs [] h
theorem lowS_size (cs:List Int):(lowS cs).size=cs.length:=by
 show (cs.map _).toArray.size=_;simp
theorem runesFrom_low (h:Low cs):Conv.runesFrom (lowS cs) (lowS cs).size 0 #[]=(cs.map (Value.int .i32)).toArray:=by
 have key:∀ (n i:Nat) (acc:List Value),i+n=cs.length→Conv.runesFrom (lowS cs) n i acc.toArray=(acc++(cs.drop i).map (Value.int .i32)).toArray:=fun n=>by
  induction n with
  | zero=>
   intro i acc hi;rw [Conv.runesFrom,yq (by omega)];simp
  | succ n ih=>
   intro i acc hi;have hlt:i < cs.length:=by omega
   have hc:=h cs[i] (qn hlt)
   have hg:((lowS cs).get! (i+0)).toNat=cs[i].toNat:=by
    have hd:(lowS cs).data=(cs.map fun c=>UInt8.ofNat c.toNat).toArray:=rfl;show ((lowS cs).data[i+0]!).toNat=_;rw [hd,y8];simp [hlt];omega
   have hdec:Utf8.decode (lowS cs) i=(cs[i].toNat,1):=by
    unfold Utf8.decode;simp only [hg];rw [if_pos (by omega)]
   rw [Conv.runesFrom,if_pos (by rw [lowS_size];exact hlt),hdec]
   have e:acc.toArray.push (I3 (Int.ofNat cs[i].toNat))=(acc++[I3 cs[i]]).toArray:=by
    rw [show (Int.ofNat cs[i].toNat)=cs[i] by show ((cs[i].toNat:Nat):Int)=_;omega];simp
   show Conv.runesFrom (lowS cs) n (i+1) (acc.toArray.push (I3 (Int.ofNat cs[i].toNat)))=_;rw [e,ih (i+1) _ (by omega),yw hlt,List.map_cons,qr];rfl
 rw [lowS_size];have:=key cs.length 0 [] (by omega);simpa using this
theorem Low.sub {a b:List Int} (h:Low b) (hs:∀ x∈a,x∈b):Low a:=fun c hc=>h c (hs c hc)
theorem gone_short (h:SetOk os):(goneOf os).length < 4611686018427387904:=by
 unfold goneOf;rw [ze];have:=zz (fun o:Opn=>decide (¬ o.kd=1)) os;have:=h.len;omega
theorem ch_i32 (h:o.ok=true):-2147483648≤o.ch∧o.ch≤2147483647:=by
 rcases ok_kd h with ⟨-,k,-⟩ | ⟨-,-,k⟩
 ·unfold okChar at k;simp only [qx,y9,decide_eq_true_eq] at k;omega
 ·omega
def chars (t:Tr):List Int:=(visR t.list).map Opn.ch
theorem One.text {w:World} {t:Tr} (h:One w b cl vW t ws) (hl:Low (chars t)):Cs 26 #[(pt b 0)] w fun e w'=>e=.returned (.string (lowS (chars t)))∧Bel w w':=by
 obtain ⟨ss,top,vK,B,ok,hH⟩:=h;refine (rText_any b cl ss top vW vK t w B.row B.tree ⟨ok.set.tellable,sortU_any _ (gone_short ok.set),fun x hx=>ch_i32 (ok.set.ok x hx)⟩).mono ?_;rintro e w' ⟨⟨xs,hp,hs,rfl⟩,h2,h3⟩;refine ⟨?_,same_below h3 B.row h2⟩;rw [TextL.vis ok.set.by' ⟨xs,hp,hs,rfl⟩,strOf_low hl];rfl
structure After (w w':World) (b:Nat) (cl:Int) (vW:Value) (os' ws':List Opn) (v':Value) (t':Tr):Prop where
 one:One w' b cl v' t' ws'
 list:t'.list=os'
 own:v'.ownBlock=vW.ownBlock∨∃ g,v'.ownBlock=some g∧w.heap.size≤g
 but:But (fun x=>x=b∨vW.ownBlock=some x) w w'
theorem One.ins {w:World} {t:Tr} (h:One w b cl vW t ws) (hcl:1≤cl∧cl≤1048575) (at' ch:Int):Cs 45 #[(pt b 0),I6 at',I3 ch] w fun e w'=>e=.returned (.tuple #[opA (insN cl t.list ws at' ch).1,I6 (insN cl t.list ws at' ch).2.1])∧∃ v' t',After w w' b cl vW (insN cl t.list ws at' ch).2.2.1 (insN cl t.list ws at' ch).2.2.2 v' t':=by
 obtain ⟨ss,top,vK,B,ok,hH⟩:=h;refine (rIns_any b cl ss top vW vK t ws at' ch w B ok.by' hcl ok.set.tellable).mono ?_;rintro e w' ⟨L,hL,o2,n,R,hi,rfl,top',v',B',e1,k⟩;rw [TextL.vis ok.set.by' hL] at hi;obtain ⟨h1,h2,h3,h4⟩:=insM_list (at':=at') (ch:=ch) ok hcl;have hh:=insM_H (at':=at') (ch:=ch) hH ok hcl;rw [hi] at h1 h2 h3 h4 hh;subst h1 h2;have hok:=insN_ok (at':=at') (ch:=ch) ok hcl;rw [← h3,← h4] at hok;exact ⟨rfl,v',R.1,⟨ss,top',vK,by rw [← h4];exact B',by rw [← h4];exact hok,hh⟩,h3,Or.inl e1,k⟩
theorem One.del {w:World} {t:Tr} (h:One w b cl vW t ws) (hcl:1≤cl∧cl≤1048575) (at':Int):Cs 79 #[(pt b 0),I6 at'] w fun e w'=>e=.returned (.tuple #[opA (delN cl t.list ws at').1,I6 (delN cl t.list ws at').2.1])∧∃ v' t',After w w' b cl vW (delN cl t.list ws at').2.2.1 (delN cl t.list ws at').2.2.2 v' t':=by
 obtain ⟨ss,top,vK,B,ok,hH⟩:=h;refine (rDel_any b cl ss top vW vK t ws at' w B ok.by' hcl ok.set.tellable).mono ?_;rintro e w' ⟨L,hL,o2,n,R,hi,rfl,top',v',B',e1,k⟩;rw [TextL.vis ok.set.by' hL] at hi;obtain ⟨h1,h2,h3,h4⟩:=delM_list (at':=at') ok hcl;have hh:=delM_H (at':=at') hH ok hcl;rw [hi] at h1 h2 h3 h4 hh;subst h1 h2;have hok:=delN_ok (at':=at') ok hcl;rw [← h3,← h4] at hok;exact ⟨rfl,v',R.1,⟨ss,top',vK,by rw [← h4];exact B',by rw [← h4];exact hok,hh⟩,h3,Or.inl e1,k⟩
theorem One.addL {w:World} {t:Tr} (h:One w b cl vW t ws) (o:Opn) (hT:OpT o):Cs 21 #[(pt b 0),opA o] w fun e w'=>e=.returned (I6 (addN t.list ws o).1)∧∃ v' t',After w w' b cl vW (addN t.list ws o).2.1 (addN t.list ws o).2.2 v' t':=by
 obtain ⟨ss,top,vK,B,ok,hH⟩:=h;refine (rAdd_any b cl ss top vW vK t ws o w B ok.by' hT).mono ?_;rintro e w' ⟨rfl,top',v',B',e1,k⟩;have hl:=addM_list (o:=o) ok;have hok:=addN_ok (o:=o) ok;rw [← hl.2.1,← hl.2.2] at hok;refine ⟨by rw [hl.1],v',(addM t ws o).2.1,⟨ss,top',vK,by rw [← hl.2.2];exact B',by rw [← hl.2.2];exact hok,addM_H hH ok⟩,hl.2.1,e1,k⟩
structure Rp where
 b:Nat
 cl:Int
 v:Value
 t:Tr
 ws:List Opn
def InR (rs:List Rp) (x:Nat):Prop:=∃ r∈rs,x=r.b∨r.v.ownBlock=some x
structure Many (W:World) (rs:List Rp):Prop where
 all:∀ r∈rs,One W r.b r.cl r.v r.t r.ws
 apart:∀ (i j:Nat) (hi:i < rs.length) (hj:j < rs.length),i≠j→rs[i].b≠rs[j].b∧∀ g,rs[i].v.ownBlock=some g→rs[j].v.ownBlock≠some g
theorem One.lt {w:World} {t:Tr} (h:One w b cl vW t ws):b < w.heap.size∧∀ g,vW.ownBlock=some g→g < w.heap.size:=by
 obtain ⟨ss,top,vK,B,ok,hH⟩:=h;exact ⟨B.row.lt,fun g e=>(qf B.own g e).2⟩
theorem Many.lt {W:World} {rs:List Rp} (h:Many W rs) {x:Nat} (hx:InR rs x):x < W.heap.size:=by
 obtain ⟨r,hr,e | e⟩:=hx
 ·rw [e];exact (h.all r hr).lt.1
 ·exact (h.all r hr).lt.2 x e
theorem Many.below {W:World} {rs:List Rp} (h:Many W rs) (hb:Bel W W'):Many W' rs:=⟨fun r hr=>(h.all r hr).below hb,h.apart⟩
structure Moved (rs rs':List Rp) (W W':World):Prop where
 len:rs'.length=rs.length
 same:∀ (i:Nat) (h:i < rs.length) (h':i < rs'.length),rs'[i].b=rs[i].b∧rs'[i].cl=rs[i].cl
 own:∀ x,InR rs' x→InR rs x∨W.heap.size≤x
 but:But (InR rs) W W'
theorem Moved.refl (rs:List Rp) (W:World):Moved rs rs W W:=⟨rfl,fun _ _ _=>⟨rfl,rfl⟩,fun _ h=>Or.inl h,But.refl _ _⟩
theorem Moved.below {rs rs':List Rp} {W:World} (h:Moved rs rs' W W') (hb:Bel W' W2):Moved rs rs' W W2:=⟨h.len,h.same,h.own,h.but.trans (But.below hb)⟩
theorem Moved.trans {r1 r2 r3:List Rp} {W1 W3:World} (h:Moved r1 r2 W1 W2) (k:Moved r2 r3 W2 W3):Moved r1 r3 W1 W3:=by
 refine ⟨k.len.trans h.len,fun i h1 h3=>?_,fun x hx=>?_,?_⟩
 ·have h2:i < r2.length:=by rw [h.len];exact h1
  obtain ⟨a,b⟩:=h.same i h1 h2;obtain ⟨c,d⟩:=k.same i h2 h3;exact ⟨c.trans a,d.trans b⟩
 ·rcases k.own x hx with q | q
  ·exact h.own x q
  ·have:=h.but.size;exact Or.inr (by omega)
 ·have s1:=h.but.size;refine ⟨qi s1 k.but.size,k.but.os.trans h.but.os,k.but.tape.trans h.but.tape,k.but.output.trans h.but.output,fun i hi hx=>?_⟩;refine (k.but.block i (by omega) fun q=>?_).trans (h.but.block i hi hx);rcases h.own i q with g | g
  ·exact hx g
  ·omega
theorem Many.put {W:World} {rs:List Rp} (h:Many W rs) (hi:i < rs.length) {os':List Opn} (a:After W W' rs[i].b rs[i].cl rs[i].v os' ws' v' t'):Many W' (rs.set i ⟨rs[i].b,rs[i].cl,v',t',ws'⟩)∧Moved rs (rs.set i ⟨rs[i].b,rs[i].cl,v',t',ws'⟩) W W':=by
 have hlen:(rs.set i ⟨rs[i].b,rs[i].cl,v',t',ws'⟩).length=rs.length:=ym ..
 have hap:∀ (j:Nat) (hj:j < rs.length),j≠i→rs[i].b≠rs[j].b∧∀ g,v'.ownBlock=some g→rs[j].v.ownBlock≠some g:=fun j hj hne=>by
  obtain ⟨q1,q2⟩:=h.apart i j hi hj (Ne.symm hne);refine ⟨q1,fun g e q=>?_⟩;rcases a.own with k | ⟨g',e',l⟩
  ·exact q2 g (k▸e) q
  ·rw [e'] at e;cases e;have:=(h.all rs[j] (qn hj)).lt.2 g q;omega
 refine ⟨⟨fun r hr=>?_,fun j k hj hk hne=>?_⟩,⟨hlen,fun j h1 h2=>?_,fun x hx=>?_,a.but.mono fun x e=>⟨rs[i],qn hi,e⟩⟩⟩
 ·obtain ⟨j,hj,rfl⟩:=qw.1 hr;rw [List.getElem_set];rw [hlen] at hj;split
  ·exact a.one
  ·rename_i hne;obtain ⟨q1,q2⟩:=h.apart j i hj hi (Ne.symm hne);exact (h.all _ (qn hj)).other (h.all _ (qn hi)) a.but q1 q2
 ·rw [hlen] at hj hk;rw [List.getElem_set,List.getElem_set];by_cases e1:i=j
  ·rw [if_pos e1,if_neg (by omega)];exact hap k hk (by omega)
  ·rw [if_neg e1];by_cases e2:i=k
   ·rw [if_pos e2];obtain ⟨q1,q2⟩:=hap j hj (by omega);exact ⟨Ne.symm q1,fun g e q=>q2 g q e⟩
   ·rw [if_neg e2];exact h.apart j k hj hk hne
 ·rw [List.getElem_set];split
  ·rename_i e;subst e;exact ⟨rfl,rfl⟩
  ·exact ⟨rfl,rfl⟩
 ·obtain ⟨r,hr,e⟩:=hx;obtain ⟨j,hj,rfl⟩:=qw.1 hr;rw [hlen] at hj;rw [List.getElem_set] at e;split at e
  ·rcases e with e | e
   ·exact Or.inl ⟨rs[i],qn hi,Or.inl e⟩
   ·rcases a.own with k | ⟨g',e',l⟩
    ·exact Or.inl ⟨rs[i],qn hi,Or.inr (k▸e)⟩
    ·have e:v'.ownBlock=some x:=e;rw [e'] at e;cases e;exact Or.inr l
  ·exact Or.inl ⟨_,qn hj,e⟩
theorem Many.more {W:World} {rs:List Rp} (h:Many W rs) (hb:Bel W W') (hl:W.heap.size≤b) (hr:RowIs W' b 118 7 (rep7 0 cl (.pointer none) (.slice none 0 0) 0 (.slice none 0 0))) (hE:Env W') (hg:15≤b):Many W' (rs++[⟨b,cl,.slice none 0 0,.nil,[]⟩]):=by
 have hl':∀ j (hj:j < (rs++[(⟨b,cl,.slice none 0 0,.nil,[]⟩:Rp)]).length),(∃ h:j < rs.length,(rs++[(⟨b,cl,.slice none 0 0,.nil,[]⟩:Rp)])[j]=rs[j])∨(j=rs.length∧(rs++[(⟨b,cl,.slice none 0 0,.nil,[]⟩:Rp)])[j]=⟨b,cl,.slice none 0 0,.nil,[]⟩):=fun j hj=>by
  rcases zr j rs.length with q | q
  ·exact Or.inl ⟨q,jz q⟩
  ·rw [qe,zp] at hj;have:j=rs.length:=by omega
   subst this;exact Or.inr ⟨rfl,by simp⟩
 refine ⟨fun r hrr=>?_,fun i j hi hj hne=>?_⟩
 ·rcases zd.1 hrr with q | q
  ·exact (h.all r q).below hb
  ·rw [zo.1 q];exact One.new hr hE hg
 ·rcases hl' i hi with ⟨h1,e1⟩ | ⟨h1,e1⟩ <;> rcases hl' j hj with ⟨h2,e2⟩ | ⟨h2,e2⟩ <;> rw [e1,e2]
  ·exact h.apart i j h1 h2 hne
  ·refine ⟨?_,fun g _ q=>by cases q⟩;have:=(h.all _ (qn h1)).lt.1;show rs[i].b≠b;omega
  ·refine ⟨?_,fun g q=>by cases q⟩;have:=(h.all _ (qn h2)).lt.1;show b≠rs[j].b;omega
  ·omega
def pk (c n:Int):Int:=(if c < 0 then -(c+1) else c) % n
theorem Qe {n:Int} (hn:0 < n):0≤pk c n∧pk c n < n:=⟨Int.emod_nonneg _ (by omega),Int.emod_lt_of_pos _ hn⟩
theorem i64r {x:Int} (h:-9223372036854775808≤x∧x≤9223372036854775807):IntKind.i64.wrap x=x:=by
 unfold IntKind.wrap;simp [IntKind.bits,IntKind.signed];omega
theorem xi (c n:Int) (hc:-9223372036854775808≤c∧c≤9223372036854775807) (hn:0 < n∧n≤9223372036854775807) (w:World):Cs 22 #[I6 c,I6 n] w fun e w'=>e=.returned (I6 (pk c n))∧w'=w:=by
 have h0:n≠0:=by omega
 by_cases h1:c < 0
 ·have e1:IntKind.i64.wrap (c+1)=c+1:=i64r (by omega);have e2:IntKind.i64.wrap (-(c+1))=-(c+1):=i64r (by omega);have e3:(-(c+1)).tmod n=pk c n:=by unfold pk;rw [if_pos h1,Int.tmod_eq_emod_of_nonneg (by omega)]
  have r:=Qe (c:=c) hn.1;have e4:IntKind.i64.wrap (pk c n)=pk c n:=i64r (by omega);go_enter Tryz.func22,Tryz.ntmps22;go_wp2_with fail;go_ret;exact ⟨rfl,rfl⟩
 ·have e3:c.tmod n=pk c n:=by unfold pk;rw [if_neg h1,Int.tmod_eq_emod_of_nonneg (by omega)]
  have r:=Qe (c:=c) hn.1;have e4:IntKind.i64.wrap (pk c n)=pk c n:=i64r (by omega);go_enter Tryz.func22,Tryz.ntmps22;go_wp2_with fail;go_ret;exact ⟨rfl,rfl⟩
theorem char_any (c:Int) (hc:-9223372036854775808≤c∧c≤9223372036854775807) (w:World):Cs 88 #[I6 c] w fun e w'=>e=.returned (I3 (97+pk c 26))∧w'=w:=by
 have HP:=kr (xi c 26 hc (by omega) w);have r:=Qe (c:=c) (n:=26) (by omega);have e1:IntKind.i64.wrap (97+pk c 26)=97+pk c 26:=i64r (by omega)
 have e2:IntKind.i32.wrap (97+pk c 26)=97+pk c 26:=by
  unfold IntKind.wrap;simp [IntKind.bits,IntKind.signed];omega
 go_enter Tryz.func88,Tryz.ntmps88;go_wp2_with (go_at_call 22;refine HP.out.mono ?_;rintro e w1 ⟨rfl,rfl⟩);go_ret;exact ⟨rfl,rfl⟩
theorem addN' (b o n:Nat):((Ad b o):Addr).add n=⟨b,o+n,none⟩:=by
 unfold Addr.add;split
 ·rename_i h;subst h;rfl
 ·rfl
theorem infoR:(Tryz.prog.info? 21).map (fun i=>(i.zero,i.size,i.bytes))=some (some (I3 0),1,4):=by kernel_rfl
structure Runes (w:World) (v:Value) (cs:List Int):Prop where
 low:Low cs
 len:cs.length≤1000000
 at':∃ g cap,v=.slice (some (Ad g 0)) cs.length cap∧cs.length≤cap∧g < w.heap.size∧∀ j (h:j < cs.length),w.cell? (Ad g j)=some (I3 cs[j])
theorem Runes.below {w:World} (h:Runes w v cs) (hb:Bel w w'):Runes w' v cs:=by
 obtain ⟨g,cap,e,h1,h2,h3⟩:=h.at';exact ⟨h.low,h.len,g,cap,e,h1,ql h2 hb.size,fun j hj=>(hb.cell (show ((Ad g j):Addr).block < _ from h2)).trans (h3 j hj)⟩
theorem Runes.but {w:World} (h:Runes w (.slice (some (Ad g 0)) n cap) cs) (hb:But X w w') (hx:¬ X g):Runes w' (.slice (some (Ad g 0)) n cap) cs:=by
 obtain ⟨g',cap',e,h1,h2,h3⟩:=h.at';cases e;exact ⟨h.low,h.len,g,cap,rfl,h1,ql h2 hb.size,fun j hj=>(qz (hb.block g h2 hx)).trans (h3 j hj)⟩
def r32 (cs:List Int):List Value:=cs.map (Value.int .i32)
theorem conv_low (w:World) (h:Low cs) (hl:cs.length≤1000000):∃ cap w',(convert 9 53 (.string (lowS cs))).run Tryz.prog w=.ok (.slice (some (Ad w.heap.size 0)) cs.length cap) w'∧Runes w' (.slice (some (Ad w.heap.size 0)) cs.length cap) cs∧Bel w w'∧w.heap.size < w'.heap.size:=by
 have e:=runesFrom_low h;have hs:(Conv.runesFrom (lowS cs) (lowS cs).size 0 #[]).size=cs.length:=by rw [e];simp
 have hr:=run_runes_of_string (P:=Tryz.prog) w 9 53 21 (lowS cs) Tryz.underlying9 Tryz.underlying53 Tryz.underlying21 (by rw [hs];omega);rw [hs,e] at hr;refine ⟨_,_,hr,⟨h,hl,_,_,rfl,grownCap_ge w cs.length 0 21,by simp,fun j hj=>?_⟩,(qj _ _).drew.alloc (by simp) _,by simp⟩;refine (cell_of_row _ _ _ _ _ _ (heap_alloc_new w.drew _)).trans ?_;rw [jl (by simpa using hj)];simp [hj]
theorem str_low (w:World) {B:Nat} (h:w.ownsRow B 21 1 v cs.length (r32 cs)) (hl:Low cs):(convert 53 9 v).run Tryz.prog w=.ok (.string (lowS cs)) w:=by
 rw [← runesBytes_low hl];rcases h.2 with ⟨e,h0⟩ | ⟨g,cap,cur,e,_⟩
 ·rw [e];obtain rfl:cs=[]:=zy.1 h0;exact run_convert_runes_nil w _ _ 21 _ _ Tryz.underlying53 Tryz.underlying21 Tryz.underlying9
 ·have hc:=fun j u hj=>h.cells (g:=g) (by rw [e];rfl) j u hj;rw [e];have:=run_convert_runes (P:=Tryz.prog) w 53 9 21 (Ad g 0) cs.length cap cs (qb _) Tryz.underlying53 Tryz.underlying21 Tryz.underlying9 (fun j hj=>by exact hc j _ (by unfold r32;simp [List.getD,hj]));rwa [ja (qb _)] at this
theorem str_runes (w:World) (h:Runes w v cs):(convert 53 9 v).run Tryz.prog w=.ok (.string (lowS cs)) w:=by
 obtain ⟨g,cap,rfl,-,-,hc⟩:=h.at';rw [← runesBytes_low h.low];have:=run_convert_runes (P:=Tryz.prog) w 53 9 21 (Ad g 0) cs.length cap cs (qb _) Tryz.underlying53 Tryz.underlying21 Tryz.underlying9 (fun j hj=>by have:=hc j hj;rw [addN',q9,this];simp [List.getD,hj]);rwa [ja (qb _)] at this
theorem without_any (cs:List Int) (v:Value) (at':Nat) (w:World) (h:Runes w v cs) (ha:at' < cs.length):Cs 28 #[v,I6 at'] w fun e w'=>e=.returned (.string (lowS (cs.eraseIdx at')))∧Bel w w':=by
 obtain ⟨g,cap,rfl,hcap,hg,hc⟩:=h.at';obtain ⟨i0,hi,hz0,hz1,hz2⟩:=info_parts infoR;have hl:=h.len;have hlow:=h.low;have HC:=kr hc;have HL:=kr hlow;clear hc hlow h;have e1:IntKind.i64.wrap ((at':Int)+1)=((at'+1:Nat):Int):=i64r (by omega);have n1:(0:Int)≤(at':Int):=by omega
 have n2:(at':Int)≤(cap:Int):=by omega
 have n3:((at'+1:Nat):Int)≤(cs.length:Int):=by omega
 go_enter Tryz.func28,Tryz.ntmps28
 have hcell:∀ (lo:Nat) (w2:World),Bel w w2→∀ (l:List Int),(∀ (j:Nat) (h:j < l.length),∃ h':lo+j < cs.length,cs[lo+j]=l[j])→∀ j u,(r32 l)[j]?=some u→w2.cell? (((Ad g lo):Addr).add j)=some u:=fun lo w2 hb l hl j u hu=>by
  obtain ⟨hj,e⟩:=zn.1 hu;have hj':j < l.length:=by simpa [r32] using hj
  obtain ⟨h',e'⟩:=hl j hj';rw [addN',hb.cell (show (⟨g,lo+j,none⟩:Addr).block < _ from hg),HC.out _ h',e'];rw [← e];simp [r32]
 have hone:∀ l:List Int,∀ u∈r32 l,u.oneCell'=true:=fun l u hu=>by
  obtain ⟨x,-,rfl⟩:=jt.1 hu;rfl
 have HCell:=kr (qd hcell hone);clear hcell hone;have hfin:r32 (cs.take at')++r32 (cs.drop (at'+1))=r32 (cs.eraseIdx at'):=by unfold r32;rw [← yb,yy]
 have hlen:(cs.eraseIdx at').length=at'+(cs.length-(at'+1)):=by rw [List.length_eraseIdx_of_lt ha];omega
 have hlw:Low (cs.eraseIdx at'):=HL.out.sub fun x hx=>jy hx;have HF:=kr (qd hfin (qd hlen hlw));clear hfin hlen hlw;have hbel:∀ {w1:World},w.grownBy w1 (Value.slice none 0 0).ownBlock→Bel w w1:=fun hg=>⟨hg.os,hg.tape,hg.output,hg.size,fun i hi=>hg.block i hi fun e=>by cases e⟩;have hbel2:∀ {v1:Value} {w1 w2:World} {n:Nat} {xs:List Value},w1.ownsRow w.heap.size 21 1 v1 n xs→Bel w w1→w1.grownBy w2 v1.ownBlock→Bel w w2:=fun ho hb hg=>⟨hg.os.trans hb.os,hg.tape.trans hb.tape,hg.output.trans hb.output,qi hb.size hg.size,fun i hi=>(hg.block i (ql hi hb.size) fun e=>by have:=(qf ho i e.symm).1;omega).trans (hb.block i hi)⟩;by_cases hcc:cap=at'+1
 ·have hd:cs.drop (at'+1)=[]:=yq (by omega);have hz:cs.length-(at'+1)=0:=by omega
  subst hcc
  go_wp2_with (first
   | (at_builtin;have hq:=HA;clear hq;refine wpList_append_own_at _ rfl (.tmp 11) (.tmp 15) 53 rfl w.heap.size 21 i0 (I3 0) 1 4 Tryz.underlying53 hi hz0 hz1 hz2 rfl (by decide) v1 at' (r32 (cs.take at')) rfl HA.out.1 _ 0 0 [] rfl rfl (fun j u hu=>by cases hu) (fun u hu=>by cases hu) (by unfold maxLen;omega) (by omega) HA.out.2.size ?_;intro v2 w2 ho2 hg2 _ hat2;rw [show r32 (cs.take at')++[]=r32 (cs.eraseIdx at') from by rw [← HF.out.1,hd];rfl,show at'+0=(cs.eraseIdx at').length from by rw [HF.out.2.1,hz]] at ho2;have hcv:=str_low w2 ho2 HF.out.2.2;have hb2:=kr (hbel2 HA.out.1 HA.out.2 hg2);clear ho2 hg2 hat2)
   | (at_builtin;refine wpList_append_own_at _ rfl (.tmp 6) (.tmp 9) 53 rfl w.heap.size 21 i0 (I3 0) 1 4 Tryz.underlying53 hi hz0 hz1 hz2 rfl (by decide) _ 0 [] rfl ⟨rfl,Or.inl ⟨rfl,rfl⟩⟩ (Ad g 0) at' _ (r32 (cs.take at')) rfl (by unfold r32;simp;omega) (HCell.out.1 0 w (qj _ _) (cs.take at') fun j h=>(by rw [qm] at h;exact ⟨by omega,by rw [jq];simp⟩)) (HCell.out.2 _) (by unfold maxLen;omega) (by omega) (qb _) ?_;intro v1 w1 ho1 hg1 _ hat1;rw [q9,zw] at ho1;have HA:=kr (qd ho1 (hbel hg1));clear ho1 hg1 hat1))
  go_ret;exact ⟨rfl,hb2.out⟩
 ·go_wp2_with (first
   | (at_builtin;have hq:=HA;clear hq;refine wpList_append_own_at _ rfl (.tmp 11) (.tmp 15) 53 rfl w.heap.size 21 i0 (I3 0) 1 4 Tryz.underlying53 hi hz0 hz1 hz2 rfl (by decide) v1 at' (r32 (cs.take at')) rfl HA.out.1 ⟨g,at'+1,none⟩ (cs.length-(at'+1)) (cap-(at'+1)) (r32 (cs.drop (at'+1))) rfl (by unfold r32;simp) (HCell.out.1 _ _ HA.out.2 (cs.drop (at'+1)) fun j h=>(by rw [qt] at h;exact ⟨by omega,by rw [yk]⟩)) (HCell.out.2 _) (by unfold maxLen;omega) (by omega) HA.out.2.size ?_;intro v2 w2 ho2 hg2 _ hat2;rw [HF.out.1,← HF.out.2.1] at ho2;have hcv:=str_low w2 ho2 HF.out.2.2;have hb2:=kr (hbel2 HA.out.1 HA.out.2 hg2);clear ho2 hg2 hat2)
   | (at_builtin;refine wpList_append_own_at _ rfl (.tmp 6) (.tmp 9) 53 rfl w.heap.size 21 i0 (I3 0) 1 4 Tryz.underlying53 hi hz0 hz1 hz2 rfl (by decide) _ 0 [] rfl ⟨rfl,Or.inl ⟨rfl,rfl⟩⟩ (Ad g 0) at' _ (r32 (cs.take at')) rfl (by unfold r32;simp;omega) (HCell.out.1 0 w (qj _ _) (cs.take at') fun j h=>(by rw [qm] at h;exact ⟨by omega,by rw [jq];simp⟩)) (HCell.out.2 _) (by unfold maxLen;omega) (by omega) (qb _) ?_;intro v1 w1 ho1 hg1 _ hat1;rw [q9,zw] at ho1;have HA:=kr (qd ho1 (hbel hg1));clear ho1 hg1 hat1))
  go_ret;exact ⟨rfl,hb2.out⟩
theorem After.pre {w0 w:World} (h:After w w' b cl vW os ws v' t') (hb:Bel w0 w):After w0 w' b cl vW os ws v' t':=
 ⟨h.one,h.list,h.own.via id fun ⟨g,e,l⟩=>⟨g,e,qi hb.size l⟩,(But.below hb).trans h.but⟩
theorem After.post {w:World} (h:After w w' b cl vW os ws v' t') (hb:Bel w' w2):After w w2 b cl vW os ws v' t':=
 ⟨h.one.below hb,h.list,h.own,h.but.trans (But.below hb)⟩
def chL (os:List Opn):List Int:=(visR os).map Opn.ch
theorem chL_low (h:RepOk G os ws cl) (hG:Hist G):Low (chL os):=fun c hc=>by
 obtain ⟨x,hx,rfl⟩:=jt.1 hc;obtain ⟨h1,h2⟩:=visR_mem hx;exact hG.low x (h.sub x h1) h2
theorem chL_len (h:SetOk os):(chL os).length≤120:=by
 unfold chL;rw [ze];have h1:(visR os).Nodup:=jp z8 (told_nodup h _ _);have:=nodup_len h1 (fun x hx=>(visR_mem hx).1);have:=h.len;omega
structure Wrote (G os ws:List Opn) (cl:Int) (o:Opn):Prop where
 hist:Hist (G++[o])
 rep:RepOk (G++[o]) (putK o os) ws cl
 cl:o.cl=cl
theorem ins_case (h:RepOk G os ws cl) (hG:Hist G) (hl:G.length < 30) (hcl:1≤cl∧cl≤1048575) (at':Nat) (ha:at'≤(chL os).length) (ch:Int) (hc:97≤ch∧ch≤122) :
  insN cl os ws at' ch=(o0,7,(os,ws))∨∃ o,insN cl os ws at' ch=(o,0,(putK o os,ws))∧Wrote G os ws cl o∧chL (putK o os)=(chL os).take at'++ch::(chL os).drop at':=by
 have hlen:(chL os).length=(visR os).length:=ze ..;have h1:¬ ((at':Int) < 0∨((visR os).length:Int) < (at':Int)):=by omega
 have hch:okChar ch=true:=by
  unfold okChar;simp only [qx,y9,decide_eq_true_eq];omega
 have e:insN cl os ws at' ch=writeN cl os ws ⟨1,0,0,0,refAt (visR os) at',ch⟩:=by unfold insN;rw [if_neg h1,if_neg (by rw [hch];decide)]
 have ho:=ins_own h1 hch;rw [e]
 cases hr:roomL cl os with
 | true=>exact Or.inl (by unfold writeN;rw [hr];rfl)
 | false=>
  obtain ⟨w1,w2,w3,w4,w5⟩:=h.write hG hl hcl hr ho fun _=>hc;have hn:∀ x∈os,x.key≠(ownL cl os ⟨1,0,0,0,refAt (visR os) at',ch⟩).key:=own_key h.book.set hr;refine Or.inr ⟨_,w1,⟨w2,w3,w5⟩,?_⟩;have hv:=vis_own h.book.set w3.book.set (own_ok h.book.set hcl hr ho.1 ho.2) hn rfl w4 at' (by omega) rfl;unfold chL;rw [hv,yb,List.map_cons,List.map_take,List.map_drop];rfl
theorem del_case (h:RepOk G os ws cl) (hG:Hist G) (hl:G.length < 30) (hcl:1≤cl∧cl≤1048575) (at':Nat) (ha:at' < (chL os).length) :
  delN cl os ws at'=(o0,7,(os,ws))∨∃ o,delN cl os ws at'=(o,0,(putK o os,ws))∧Wrote G os ws cl o∧chL (putK o os)=(chL os).eraseIdx at':=by
 have hlen:(chL os).length=(visR os).length:=ze ..;have h1:¬ ((at':Int) < 0∨((visR os).length:Int)≤(at':Int)):=by omega
 have ho:=del_own h.book.set h1;have e:delN cl os ws at'=writeN cl os ws ⟨2,0,0,0,(getO (visR os)[(at':Int).toNat]?).key,0⟩:=by unfold delN;rw [if_neg h1]
 rw [e]
 cases hr:roomL cl os with
 | true=>exact Or.inl (by unfold writeN;rw [hr];rfl)
 | false=>
  obtain ⟨w1,w2,w3,w4,w5⟩:=h.write hG hl hcl hr ho fun q=>absurd (show (2:Int)=1 from q) (by decide);refine Or.inr ⟨_,w1,⟨w2,w3,w5⟩,?_⟩;have hv:=vis_del w3.book.set (show ¬ (2:Int)=1 by decide);have hlt:at' < (visR os).length:=by omega
  have hk:(visR os)[at'].key=(ownL cl os ⟨2,0,0,0,(getO (visR os)[(at':Int).toNat]?).key,0⟩).rf:=by
   show _=(getO (visR os)[(at':Int).toNat]?).key;rw [Int.toNat_natCast,qk hlt];rfl
  unfold chL;rw [hv,(filt_one (vis_nodup h.book.set) _).1 at' hlt hk,yy,yb,List.map_take,List.map_drop]
theorem put_split {at':Nat} (h:at'≤cs.length) (c:Int):(cs.take at'++c::cs.drop at').length=cs.length+1∧(cs.take at'++c::cs.drop at').eraseIdx at'=cs∧(cs.take at'++c::cs.drop at')[at']?=some c:=by
 have hl:(cs.take at').length=at':=by rw [qm];omega
 refine ⟨?_,?_,?_⟩
 ·rw [qe,qp,qt,hl];omega
 ·rw [List.eraseIdx_append_of_length_le (by omega),hl,Nat.sub_self,List.eraseIdx_cons_zero,jh]
 ·rw [j9 (by omega),hl,Nat.sub_self];rfl
def ed4 (who kind at' c:Int):Nat→Value
 | 0=>I6 who
 | 1=>I6 kind
 | 2=>I6 at'
 | _=>I6 c
structure DoesS (w W:World) (who kind at' c:Int) (nb:Nat) (g cap:Nat) (cs:List Int):Prop where
 box:RowIs W w.heap.size 95 4 (ed4 who kind at' c)
 res:RowIs W (w.heap.size+1) 43 6 (opV o0)
 non:RowIs W nb 43 6 (opV o0)
 nlt:w.heap.size+1 < nb
 was:Runes W (.slice (some (Ad g 0)) cs.length cap) cs
 glt:w.heap.size+1 < g
theorem DoesS.below {w W:World} {at':Int} (h:DoesS w W who kind at' c nb g cap cs) (hb:Bel W W'):DoesS w W' who kind at' c nb g cap cs:=
 ⟨h.box.below hb h.box.lt,h.res.below hb h.res.lt,h.non.below hb h.non.lt,h.nlt,h.was.below hb,h.glt⟩
theorem DoesS.but {w W:World} {at':Int} (h:DoesS w W who kind at' c nb g cap cs) (hb:But X W W') (hx:∀ x,X x→x < w.heap.size):DoesS w W' who kind at' c nb g cap cs:=
 ⟨h.box.but hb fun q=>by have:=hx _ q;omega,h.res.but hb fun q=>by have:=hx _ q;omega,h.non.but hb fun q=>by have:=hx _ q;have:=h.nlt;omega,h.nlt,h.was.but hb fun q=>by have:=hx _ q;have:=h.glt;omega,h.glt⟩
theorem One.textL {w:World} {t:Tr} (h:One w b cl vW t ws) (hc:chL t.list=cs) (hl:Low cs):Cs 26 #[(pt b 0)] w fun e w'=>e=.returned (.string (lowS cs))∧Bel w w':=by
 subst hc;exact h.text hl
theorem does_start {w w1:World} {at':Int} (hb1:Below ((w.alloc (.cells #[I6 who,I6 kind,I6 at',I6 c] 95)).alloc (.cells oZ 43)).heap.size ((w.alloc (.cells #[I6 who,I6 kind,I6 at',I6 c] 95)).alloc (.cells oZ 43)) w1) (hru:Runes w2 (.slice (some (Ad w1.heap.size 0)) cs.length cap) cs) (hb2:Bel w1 w2) (hlt:w1.heap.size < w2.heap.size) :
  DoesS w (w2.alloc (.cells oZ 43)) who kind at' c w2.heap.size w1.heap.size cap cs∧Bel w (w2.alloc (.cells oZ 43)):=by
 have s0:((w.alloc (.cells #[I6 who,I6 kind,I6 at',I6 c] 95)).alloc (.cells oZ 43)).heap.size=w.heap.size+2:=by simp
 have s1:=hb1.size;have hb3:Bel w2 (w2.alloc (.cells oZ 43)):=kq _ _;have r1:RowIs (w.alloc (.cells #[I6 who,I6 kind,I6 at',I6 c] 95)) w.heap.size 95 4 (ed4 who kind at' c):=RowIs.last rfl rfl;have r1':=(r1.alloc (.cells oZ 43)).below hb1 (r1.alloc (.cells oZ 43)).lt;have r2:RowIs ((w.alloc (.cells #[I6 who,I6 kind,I6 at',I6 c] 95)).alloc (.cells oZ 43)) (w.heap.size+1) 43 6 (opV o0):=RowIs.last (by simp) rfl;have r2':=r2.below hb1 r2.lt;have r3:RowIs (w2.alloc (.cells oZ 43)) w2.heap.size 43 6 (opV o0):=RowIs.last rfl rfl;have q1:=r1'.below hb2 r1'.lt;have q2:=r2'.below hb2 r2'.lt;refine ⟨⟨q1.below hb3 q1.lt,q2.below hb3 q2.lt,r3,by omega,hru.below hb3,by omega⟩,?_⟩;have b0:Bel w ((w.alloc (.cells #[I6 who,I6 kind,I6 at',I6 c] 95)).alloc (.cells oZ 43)):=((qj _ _).alloc (qb _) _).alloc (by simp) _;have b1:=b0.trans (hb1.mono b0.size);have b2:=b1.trans (hb2.mono b1.size);exact b2.trans (hb3.mono b2.size)
theorem Qi:(Tryz.prog.info? 43).map (·.size)=some 6:=by kernel_rfl
theorem vu {b:World} (h:a.drew=b):Bel a b:=h▸(qj _ _).drew
theorem One.touch {w:World} {t:Tr} (h:One w b cl vW t ws) {x:Nat} (hr:RowIs w x 43 6 f) (hv:vW.ownBlock≠some x) (hg:15≤x) (cs:Array Value):One (w.setRow x cs) b cl vW t ws:=by
 obtain ⟨ss,top,vK,B,ok,hH⟩:=h;have hb:But (fun y=>y=x) w (w.setRow x cs):=⟨Nat.le_of_eq (by simp [World.setRow]),rfl,rfl,rfl,fun i _ hi=>setRow_other _ _ _ _ hi⟩;have n1:¬ b=x:=fun e=>absurd (RowIs.type_eq B.row (e▸hr)) (by decide);have n3:∀ g,g=x→∀ f,¬ RowIs w g 318 9 f:=fun g e f k=>absurd (RowIs.type_eq hr (e▸k)) (by decide);exact ⟨ss,top,vK,⟨B.row.but hb n1,isTr_gen2 hb n3 B.tree,kp B.own fun g hg=>hb.block g (qf B.own g hg).2 (fun e=>hv (e▸hg)),B.typ,B.wtyp,B.wlen,B.size,B.env.but hb (fun g e=>by rw [e];exact hg) (by have:=B.row.lt;have:=B.far;omega),B.far,B.wfar⟩,ok,hH⟩
theorem But.setRowS {b:World} (h:But X a b) (hg:a.heap.size≤g) (cs:Array Value):But X a (b.setRow g cs):=
 ⟨qi h.size (Nat.le_of_eq (by simp [World.setRow])),h.os,h.tape,h.output,fun i hi hx=>(setRow_other _ _ _ _ (by omega)).trans (h.block i hi hx)⟩
theorem After.touch {w:World} (h:After w w' b cl vW os ws v' t') {x:Nat} (hr:RowIs w' x 43 6 f) (hx:w.heap.size≤x) (hv:v'.ownBlock≠some x) (hg:15≤x) (cs:Array Value):After w (w'.setRow x cs) b cl vW os ws v' t':=
 ⟨h.one.touch hr hv hg cs,h.list,h.own,h.but.setRowS hx cs⟩
theorem Runes.touch {w:World} {x:Nat} (h:Runes w (.slice (some (Ad g 0)) n cap) cs) (hx:g≠x) (rs:Array Value):Runes (w.setRow x rs) (.slice (some (Ad g 0)) n cap) cs:=
 h.but (X:=fun y=>y=x) ⟨Nat.le_of_eq (by simp [World.setRow]),rfl,rfl,rfl,fun i _ hi=>setRow_other _ _ _ _ hi⟩ hx
theorem runes_at {w:World} (h:Runes w (.slice (some (Ad g 0)) n cap) cs) {p:Nat} (hp:cs[p]?=some c):w.cell? (Ad g p)=some (I3 c):=by
 obtain ⟨g',cap',e,-,-,h3⟩:=h.at';cases e;obtain ⟨hlt,e⟩:=zn.1 hp;rw [h3 p hlt,e]
theorem After.away {w w3:World} {t:Tr} (h:After w3 w' b cl vW os ws' v' t') (h0:One w b cl vW t ws) (hs:w.heap.size+1 < w3.heap.size):v'.ownBlock≠some (w.heap.size+1):=fun e=>by
 rcases h.own with q | ⟨g,q,l⟩
 ·rw [q] at e;have:=h0.lt.2 _ e;omega
 ·rw [q] at e;cases e;omega
theorem One.glob {w:World} {t:Tr} (h:One w b cl vW t ws):15≤w.heap.size:=by
 obtain ⟨ss,top,vK,B,ok,hH⟩:=h;have:=B.row.lt;have:=B.far;omega
