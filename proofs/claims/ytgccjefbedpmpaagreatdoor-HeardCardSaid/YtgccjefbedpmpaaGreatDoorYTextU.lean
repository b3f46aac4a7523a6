import Derived.Test.YtgccjefbedpmpaaGreatDoorYBIns
import Derived.Test.YtgccjefbedpmpaaGreatDoorYRef2
namespace Go.Proofs.YtgccjefbedpmpaaGreatDoor
open Go.RowKit
set_option maxRecDepth 100000
set_option maxHeartbeats 8000000
variable {a b o x : Opn} {cl k : Int} {os ws : List Opn}
theorem Qh (h:ByKey os) {y:Opn} (hx:x∈os) (hy:y∈os) (e:x.key=y.key):x=y:=by
 obtain ⟨i,hi,rfl⟩:=qw.1 hx;obtain ⟨j,hj,rfl⟩:=qw.1 hy;rcases kl i j with h1|h1|h1
 ·have:=zl.1 h i j hi hj h1;omega
 ·subst h1;rfl
 ·have:=zl.1 h j i hj hi h1;omega
def Desc (ins:List Opn) (o x:Opn):Prop:=∀ P:Opn→Prop,P o→(∀ p x,P p→p∈ins→x∈ins→x.rf=p.key→P x)→P x
theorem Desc.self {ins:List Opn} {o:Opn}:Desc ins o o:=fun _ h _=>h
theorem Desc.down {ins:List Opn} {o p x:Opn} (h:Desc ins o p) (hp:p∈ins) (hx:x∈ins) (e:x.rf=p.key):Desc ins o x:=fun P a b=>b p x (h P a b) hp hx e
theorem Desc.ind {ins:List Opn} {o:Opn} {M:∀ x,Desc ins o x→Prop} (self:M o .self) (down:∀ {p x} (h:Desc ins o p) hp hx e,M p h→M x (h.down hp hx e)) {x:Opn} (h:Desc ins o x):M x h:=
 (h (fun x=>∃ h,M x h) ⟨_,self⟩ fun _ _ ⟨k,m⟩ a b e=>⟨_,down k a b e m⟩).elim fun _ m=>m
theorem Desc.st {ins:List Opn} (hU:∀ x∈ins,∀ y∈ins,x.rf=y.key→y.st<x.st) (h:Desc ins o x):o.st≤x.st:=by
 induction h using Desc.ind with
 | self=>exact Int.le_refl _
 | down h hp hx e ih=>have:=hU _ hx _ hp e;omega
theorem Desc.trans {ins:List Opn} {c:Opn} (h:Desc ins a b) (k:Desc ins b c):Desc ins a c:=by
 induction k using Desc.ind with
 | self=>exact h
 | down h hp hx e ih=>exact .down ih hp hx e
theorem tellL_desc (ins:List Opn) (gone:List Int):∀ (n:Nat) (ref:Int),∀ x∈tellL n ins gone ref,x∈ins∧∃ c∈ins,c.rf=ref∧Desc ins c x
 | 0,_,_,h=>by cases h
 | n+1,ref,x,h=>by
  obtain ⟨o,ho,hx⟩:=yd.1 (show x∈(hangs ins ref).flatMap _ from h);obtain ⟨ho1,ho2⟩:=qo.1 ho;rw [decide_eq_true_eq] at ho2;rcases zd.1 hx with k|k
  ·split at k
   ·cases k
   ·obtain rfl:=zo.1 k;exact ⟨ho1,_,ho1,ho2,.self⟩
  ·obtain ⟨h1,c,hc,e,hd⟩:=tellL_desc ins gone n _ x k;exact ⟨h1,o,ho1,ho2,Desc.trans (.down .self ho1 hc e) hd⟩
theorem desc_one {ins:List Opn} (hU:∀ x∈ins,∀ y∈ins,x.rf=y.key→y.st<x.st) (hK:∀ x∈ins,∀ y∈ins,x.key=y.key→x=y) (ha:a∈ins) (hb:b∈ins) (hab:a≠b) (e:a.rf=b.rf) (h1:Desc ins a x):Desc ins b x→False:=by
 induction h1 using Desc.ind with
 | self=>
  intro h2
  induction h2 using Desc.ind with
  | self=>exact hab rfl
  | down h hp hx e2=>
   have h3:=h.st hU;have h4:=hU _ hb _ hp (by rw [← e,e2]);omega
 | down h hp hx e1 ih=>
  intro h2
  induction h2 using Desc.ind with
  | self=>
   have h3:=h.st hU;have h4:=hU _ ha _ hp (by rw [e,e1]);omega
  | down h' hp' hx' e2=>
   have:=hK _ hp _ hp' (by rw [← e1,← e2]);subst this;exact ih h'
theorem tellL_nodup {ins:List Opn} (gone:List Int) (hU:∀ x∈ins,∀ y∈ins,x.rf=y.key→y.st<x.st) (hK:∀ x∈ins,∀ y∈ins,x.key=y.key→x=y) (hn:ins.Nodup):∀ (n:Nat) (ref:Int),(tellL n ins gone ref).Nodup
 | 0,_=>List.nodup_nil
 | n+1,ref=>by
  have hm:∀ o∈hangs ins ref,o∈ins∧o.rf=ref:=fun o ho=>by
   obtain ⟨a,b⟩:=qo.1 ho;exact ⟨a,by simpa using b⟩
  have hd:∀ o∈hangs ins ref,∀ x∈(if gone.contains o.key then [] else [o])++tellL n ins gone o.key,Desc ins o x:=fun o ho x hx=>by
   rcases zd.1 hx with k|k
   ·split at k
    ·cases k
    ·obtain rfl:=zo.1 k;exact .self
   ·obtain ⟨-,c,hc,e,hd⟩:=tellL_desc ins gone n _ x k;exact Desc.trans (.down .self (hm o ho).1 hc e) hd
  refine List.pairwise_flatMap.2 ⟨fun o ho=>?_,?_⟩
  ·refine List.pairwise_append.2 ⟨by split<;>simp,tellL_nodup gone hU hK hn n _,fun a ha b hb=>?_⟩;split at ha
   ·cases ha
   ·obtain rfl:=zo.1 ha;obtain ⟨-,c,hc,e,hd⟩:=tellL_desc ins gone n _ b hb;have h3:=hd.st hU;have h4:=hU _ hc _ (hm _ ho).1 e;intro h5;subst h5;omega
  ·refine List.Pairwise.imp_of_mem ?_ (jp z8 hn);intro a b ha hb hne x hx y hy hxy;subst hxy;exact desc_one hU hK (hm a ha).1 (hm b hb).1 hne ((hm a ha).2.trans (hm b hb).2.symm) (hd a ha x hx) (hd b hb x hy)
theorem nodup_len {l:List Opn}:∀ {m:List Opn},l.Nodup→(∀ x∈l,x∈m)→l.length≤m.length:=by
 induction l with
 | nil=>intro m _ _;exact qs _
 | cons a l ih=>
  intro m hn hs;obtain ⟨s,t,rfl⟩:=List.append_of_mem (hs a (qy ..));obtain ⟨h1,h2⟩:=List.nodup_cons.1 hn
  have:=ih (m:=s++t) h2 fun x hx=>by
   have hne:x≠a:=fun e=>h1 (e▸hx);rcases zd.1 (hs x (zb _ hx)) with k|k
   ·exact zh _ k
   ·rcases qu.1 k with k|k
    ·exact absurd k hne
    ·exact jo _ k
  simp only [qe,qp] at this ⊢;omega
theorem ByKey.nodup (h:ByKey os):os.Nodup:=List.Pairwise.via (fun {a b} k e=>by subst e;exact Int.lt_irrefl _ k) h
theorem Qn (h:o.ok=true):(1≤o.cl∧o.cl≤1048575)∧(1≤o.ck∧o.ck≤1048575)∧(1≤o.st∧o.st≤1073741823)∧o.key≠o.rf:=by
 unfold Opn.ok okOp at h;simp only [qx,Bool.not_eq_true',decide_eq_true_eq,decide_eq_false_iff_not] at h;obtain ⟨⟨⟨⟨⟨⟨⟨h1,h2⟩,h3⟩,h4⟩,h5⟩,h6⟩,h7⟩,-⟩:=h;exact ⟨⟨h1,h2⟩,⟨h3,h4⟩,⟨h5,h6⟩,h7⟩
theorem ok_kd (h:o.ok=true):(o.kd=1∧okChar o.ch=true∧(okKey o.rf=true∨o.rf=0))∨(o.kd=2∧okKey o.rf=true∧o.ch=0):=by
 unfold Opn.ok okOp at h;simp only [qx] at h;have k:=h.2;split at k
 ·rw [qx,y9,decide_eq_true_eq] at k;exact Or.inl ⟨by assumption,k⟩
 ·rw [qx,qx,decide_eq_true_eq,decide_eq_true_eq] at k;exact Or.inr ⟨k.1.1,k.1.2,k.2⟩
theorem okKey_pos (h:okKey k=true):1048577≤k:=by
 unfold okKey at h;simp only [qx,decide_eq_true_eq] at h;omega
theorem ok_rf (h:o.ok=true):0≤o.rf:=by
 rcases ok_kd h with ⟨-,-,k|k⟩|⟨-,k,-⟩
 ·have:=okKey_pos k;omega
 ·omega
 ·have:=okKey_pos k;omega
theorem okKey_of (h:o.ok=true):okKey o.key=true:=by
 obtain ⟨h1,h2,-⟩:=Qn h;unfold okKey Opn.key;simp only [qx,decide_eq_true_eq];omega
theorem key_parts {a c a' c':Int} (h:0≤c∧c<1048576) (h':0≤c'∧c'<1048576) (e:a*1048576+c=a'*1048576+c'):a=a'∧c=c':=by omega
structure SetOk (os:List Opn):Prop where
 by':ByKey os
 ok:∀ o∈os,o.ok=true
 len:os.length≤120
 gap:∀ o∈os,1<o.ck→∃ p∈os,p.key=o.key-1
 ref:∀ o∈os,o.rf=0∨∃ p∈os,p.key=o.rf∧p.kd=1∧p.st<o.st
theorem SetOk.nil:SetOk []:=⟨.nil,fun _ h=>(by cases h),qs _,fun _ h=>(by cases h),fun _ h=>(by cases h)⟩
theorem SetOk.up (h:SetOk os):∀ x∈insOf os,∀ y∈insOf os,x.rf=y.key→y.st<x.st:=fun x hx y hy e=>by
 have mx:=(qo.1 hx).1;have my:=(qo.1 hy).1;rcases h.ref x mx with k|⟨p,hp,k1,-,k3⟩
 ·have:=okKey_pos (okKey_of (h.ok y my));omega
 ·have:=Qh h.by' hp my (k1.trans e)
  subst this;exact k3
theorem SetOk.tellable (h:SetOk os):Tellable os:=by
 have hk:∀ o∈os,1≤o.key∧o.key<1099511627776:=fun o ho=>by
  obtain ⟨h1,h2,-⟩:=Qn (h.ok o ho);unfold Opn.key;omega
 refine ⟨by have:=h.len;omega,fun o ho=>?_,fun o ho=>by have:=hk o ho;omega,fun o ho=>?_,fun o ho=>ok_rf (h.ok o ho),h.up,fun xs hp hw=>?_⟩
 ·obtain ⟨h1,h2,-⟩:=Qn (h.ok o ho);unfold ccT;omega
 ·obtain ⟨-,-,h3,-⟩:=Qn (h.ok o ho);omega
 ·have hm:∀ x∈xs,x∈insOf os:=fun x hx=>hp.mem_iff.1 hx
  have hl:xs.length≤120:=by
   rw [hp.length_eq];have:=zz (fun o:Opn=>decide (o.kd=1)) os;have:=h.len;unfold insOf;omega
  have hn:xs.Nodup:=(hp.symm.nodup (jp z8 h.by'.nodup));have:=nodup_len (tellL_nodup (goneOf os) (fun x hx y hy=>h.up x (hm x hx) y (hm y hy)) (fun x hx y hy e=>Qh h.by' (qo.1 (hm x hx)).1 (qo.1 (hm y hy)).1 e) hn 1073741824 0) (fun x hx=>(tellL_desc xs (goneOf os) _ _ x hx).1);omega
def insD (o:Opn):List Opn→List Opn
 | []=>[o]
 | x::l=>if o.st<x.st∨(x.st=o.st∧o.key<x.key) then x::insD o l else o::x::l
theorem insD_perm (o:Opn):∀ l,(insD o l).Perm (o::l)
 | []=>.refl _
 | x::l=>by
  unfold insD;split
  ·exact ((insD_perm o l).cons x).trans (.swap ..)
  ·exact .refl _
theorem insD_sorted {o:Opn}:∀ {l:List Opn},l.Pairwise (fun x y=>¬ ahd y x)→(∀ x∈l,x.rf=o.rf)→(insD o l).Pairwise (fun x y=>¬ ahd y x)
 | [],_,_=>by simp [insD]
 | x::l,h,hr=>by
  obtain ⟨h1,h2⟩:=js.1 h;have hx:=hr x (qy ..);unfold insD;split
  ·rename_i hc;refine js.2 ⟨fun y hy=>?_,insD_sorted h2 fun y hy=>hr y (zb _ hy)⟩;rcases qu.1 ((insD_perm o l).mem_iff.1 hy) with e|k
   ·rw [e];unfold ahd;omega
   ·exact h1 y k
  ·rename_i hc;refine js.2 ⟨fun y hy=>?_,h⟩;rcases qu.1 hy with e|k
   ·rw [e];unfold ahd;omega
   ·have h3:=h1 y k;have h4:=hr y hy;unfold ahd at h3 ⊢;omega
def onL (k:Int):List Opn→List Opn→List Opn
 | on,[]=>on
 | on,o::l=>onL k (if o.kd=1∧o.rf=k then insD o on else on) l
theorem onL_perm (k:Int):∀ (l on:List Opn),(onL k on l).Perm (on++l.filter fun o=>decide (o.kd=1∧o.rf=k))
 | [],on=>by simp [onL]
 | o::l,on=>by
  rw [onL];refine (onL_perm k l _).trans ?_;by_cases h:o.kd=1∧o.rf=k
  ·rw [if_pos h,kg (by simpa using h)];exact ((insD_perm o on).append_right _).trans (List.perm_middle.symm)
  ·rw [if_neg h,List.filter_cons_of_neg (by simpa using h)]
theorem onL_sorted (k:Int):∀ (l on:List Opn),on.Pairwise (fun x y=>¬ ahd y x)→(∀ x∈on,x.rf=k)→(onL k on l).Pairwise (fun x y=>¬ ahd y x)
 | [],on,h,_=>h
 | o::l,on,h,hr=>by
  rw [onL];by_cases hc:o.kd=1∧o.rf=k
  ·rw [if_pos hc];refine onL_sorted k l _ (insD_sorted h fun x hx=>(hr x hx).trans hc.2.symm) fun x hx=>?_;rcases qu.1 ((insD_perm o on).mem_iff.1 hx) with e|q
   ·rw [e];exact hc.2
   ·exact hr x q
  ·rw [if_neg hc];exact onL_sorted k l _ h hr
def toldR:Nat→List Opn→Int→List Opn
 | 0,_,_=>[]
 | n+1,l,k=>(onL k [] l).flatMap fun o=>o::toldR n l o.key
def visR (l:List Opn):List Opn:=(toldR 1073741824 l 0).filter fun o=>!(goneOf l).contains o.key
theorem hangs_on {xs:List Opn} (hs:ByKey os) (hp:xs.Perm (insOf os)) (hw:xs.Pairwise (fun x y=>¬ ahd y x)) (k:Int):hangs xs k=onL k [] os:=by
 have hq:(hangs xs k).Perm (onL k [] os):=by
  refine (hp.filter _).trans (List.Perm.symm ((onL_perm k os []).trans ?_));rw [zw,insOf,List.filter_filter];refine List.Perm.of_eq (List.filter_congr fun x _=>?_);by_cases h1:x.kd=1<;>by_cases h2:x.rf=k<;>simp [h1,h2]
 refine List.Perm.eq_of_pairwise (le:=fun x y=>¬ ahd y x) (fun a b ha hb h1 h2=>?_) (jp z8 hw) (onL_sorted k os [] .nil fun _ h=>(by cases h)) hq;have ma:=(qo.1 (hp.mem_iff.1 (qo.1 ha).1)).1;have mb:=(qo.1 (hp.mem_iff.1 (qo.1 (hq.mem_iff.2 hb)).1)).1;refine Qh hs ma mb ?_;unfold ahd at h1 h2;omega
theorem tellL_vis {os xs:List Opn} (hs:ByKey os) (hp:xs.Perm (insOf os)) (hw:xs.Pairwise (fun x y=>¬ ahd y x)) (gone:List Int):∀ (n:Nat) (k:Int),tellL n xs gone k=(toldR n os k).filter fun o=>!gone.contains o.key
 | 0,_=>rfl
 | n+1,k=>by
  rw [tellL,toldR,hangs_on hs hp hw k,List.filter_flatMap];congr 1
  funext o
  rw [tellL_vis hs hp hw gone n,List.filter_cons];cases gone.contains o.key<;>rfl
theorem TextL.vis {L:List Opn} (hs:ByKey os) (h:TextL os L):L=visR os:=by
 obtain ⟨xs,hp,hw,rfl⟩:=h;exact tellL_vis hs hp hw _ _ _
theorem toldR_mem (l:List Opn):∀ (n:Nat) (k:Int),∀ x∈toldR n l k,x∈insOf l
 | 0,_,_,h=>by cases h
 | n+1,k,x,h=>by
  obtain ⟨o,ho,hx⟩:=yd.1 (show x∈(onL k [] l).flatMap _ from h);rcases qu.1 hx with e|q
  ·subst e;have:=(onL_perm k l []).mem_iff.1 ho;rw [zw] at this;obtain ⟨h1,h2⟩:=qo.1 this;rw [decide_eq_true_eq] at h2;exact qo.2 ⟨h1,by simpa using h2.1⟩
  ·exact toldR_mem l n _ x q
def readyL (os:List Opn) (o:Opn):Bool:=(decide (o.ck≤1)||(os.find? (fun x=>decide (x.key=o.cl*1048576+(o.ck-1)))).isSome)&&(decide (o.rf=0)||((os.find? (fun x=>decide (x.key=o.rf))).isSome&&(decide ((getO (os.find? (fun x=>decide (x.key=o.rf)))).kd=1)&&decide ((getO (os.find? (fun x=>decide (x.key=o.rf)))).st<o.st))))
theorem find_key (h:ByKey os) {p:Opn} (hp:p∈os) (e:p.key=k):os.find? (fun x=>decide (x.key=k))=some p:=by
 cases hf:os.find? (fun x=>decide (x.key=k)) with
 | none=>have:=List.find?_eq_none.1 hf p hp;simp [e] at this
 | some q=>
  have h1:=List.find?_some hf;have h2:=List.mem_of_find?_eq_some hf;rw [decide_eq_true_eq] at h1;rw [Qh h h2 hp (h1.trans e.symm)]
theorem find_some (h:(os.find? (fun x=>decide (x.key=k))).isSome=true):∃ p∈os,p.key=k∧os.find? (fun x=>decide (x.key=k))=some p:=by
 obtain ⟨q,hq⟩:=Option.isSome_iff_exists.1 h;have h1:=List.find?_some hq;rw [decide_eq_true_eq] at h1;exact ⟨q,List.mem_of_find?_eq_some hq,h1,hq⟩
theorem Qt (h:ByKey os) (o:Opn):readyL os o=true↔(o.ck≤1∨∃ p∈os,p.key=o.cl*1048576+(o.ck-1))∧(o.rf=0∨∃ p∈os,p.key=o.rf∧p.kd=1∧p.st<o.st):=by
 unfold readyL;rw [qx,y9,y9,decide_eq_true_eq,decide_eq_true_eq,qx,qx,decide_eq_true_eq,decide_eq_true_eq];constructor
 ·rintro ⟨h1,h2⟩;refine ⟨h1.via id fun k=>?_,h2.via id fun ⟨k1,k2,k3⟩=>?_⟩
  ·obtain ⟨p,hp,e,-⟩:=find_some k;exact ⟨p,hp,e⟩
  ·obtain ⟨p,hp,e,q⟩:=find_some k1;rw [q] at k2 k3;exact ⟨p,hp,e,k2,k3⟩
 ·rintro ⟨h1,h2⟩;refine ⟨h1.via id fun ⟨p,hp,e⟩=>?_,h2.via id fun ⟨p,hp,e,k2,k3⟩=>?_⟩
  ·rw [find_key h hp e];rfl
  ·rw [find_key h hp e];exact ⟨rfl,k2,k3⟩
theorem putK_len (o:Opn) (os:List Opn):(putK o os).length=os.length+1:=by
 unfold putK
 have:∀ l:List Opn,(l.filter (fun x=>decide (x.key<o.key))).length+(l.filter (fun x=>!decide (x.key<o.key))).length=l.length:=fun l=>by
  induction l with
  | nil=>rfl
  | cons a l ih=>
   by_cases h:a.key<o.key
   ·simp only [List.filter_cons,h,decide_true,Bool.not_true,if_true,Bool.false_eq_true,if_false,qp];omega
   ·simp only [List.filter_cons,h,decide_false,Bool.not_false,if_true,Bool.false_eq_true,if_false,qp];omega
 have:=this os;rw [qe,qp];omega
theorem SetOk.put (h:SetOk os) (ho:o.ok=true) (hn:∀ x∈os,x.key≠o.key) (hl:os.length<120) (hr:readyL os o=true):SetOk (putK o os):=by
 obtain ⟨r1,r2⟩:=(Qt h.by' o).1 hr;refine ⟨putK_by h.by' hn,fun x hx=>?_,by rw [putK_len];omega,fun x hx hc=>?_,fun x hx=>?_⟩
 ·rcases kw.1 hx with e|q
  ·rw [e];exact ho
  ·exact h.ok x q
 ·rcases kw.1 hx with e|q
  ·subst e;rcases r1 with k|⟨p,hp,k⟩
   ·omega
   ·exact ⟨p,kw.2 (Or.inr hp),by rw [k];unfold Opn.key;omega⟩
  ·obtain ⟨p,hp,k⟩:=h.gap x q hc;exact ⟨p,kw.2 (Or.inr hp),k⟩
 ·rcases kw.1 hx with e|q
  ·subst e;exact r2.via id fun ⟨p,hp,k⟩=>⟨p,kw.2 (Or.inr hp),k⟩
  ·exact (h.ref x q).via id fun ⟨p,hp,k⟩=>⟨p,kw.2 (Or.inr hp),k⟩
structure BookOk (os ws:List Opn):Prop where
 set:SetOk os
 by':ByKey ws
 ok:∀ o∈ws,o.ok=true
 len:ws.length≤12
 apart:∀ x∈os,∀ y∈ws,x.key≠y.key
theorem BookOk.nil:BookOk [] []:=⟨.nil,.nil,fun _ h=>(by cases h),qs _,fun _ h=>(by cases h)⟩
def takeN:Nat→List Opn→List Opn→List Opn×List Opn
 | 0,os,ws=>(os,ws)
 | f+1,os,ws=>if 120≤os.length then (os,ws) else match ws.findIdx? (readyL os) with
  | none=>(os,ws)
  | some i=>takeN f (putK (getO ws[i]?) os) (ws.eraseIdx i)
theorem BookOk.next (h:BookOk os ws) (hl:¬ 120≤os.length) {i:Nat} (hi:ws.findIdx? (readyL os)=some i):BookOk (putK (getO ws[i]?) os) (ws.eraseIdx i):=by
 obtain ⟨hi1,hi2,-⟩:=zx.1 hi;have hm:ws[i]∈ws:=qn hi1;have e:getO ws[i]?=ws[i]:=by rw [qk hi1];rfl
 rw [e];refine ⟨h.set.put (h.ok _ hm) (fun x hx=>h.apart x hx _ hm) (by omega) hi2,jp (List.eraseIdx_sublist _ _) h.by',fun o ho=>h.ok o (jy ho),qi (List.length_eraseIdx_le ..) h.len,fun x hx y hy=>?_⟩;rcases kw.1 hx with k|k
 ·subst k;obtain ⟨j,hj,hne,rfl⟩:=List.mem_eraseIdx_iff_getElem.1 hy;rcases kl i j with q|q|q
  ·have:=zl.1 h.by' i j hi1 hj q;omega
  ·exact absurd q.symm hne
  ·have:=zl.1 h.by' j i hj hi1 q;omega
 ·exact h.apart x k y (jy hy)
theorem takeN_ok:∀ (n:Nat) {os ws:List Opn},BookOk os ws→BookOk (takeN n os ws).1 (takeN n os ws).2
 | 0,_,_,h=>h
 | n+1,os,ws,h=>by
  unfold takeN;split
  ·exact h
  ·split
   ·exact h
   ·rename_i hl _ i hi;exact takeN_ok n (h.next hl hi)
theorem lessKey_ok (h:BookOk os ws) (k:Int):BookOk os (lessKey k ws):=⟨h.set,jp z8 h.by',fun o ho=>h.ok o (qo.1 ho).1,qi (zz _ _) h.len,fun x hx y hy=>h.apart x hx y (qo.1 hy).1⟩
theorem BookOk.put (h:BookOk os ws) (ho:o.ok=true) (hn:∀ x∈os,x.key≠o.key) (hl:os.length<120) (hr:readyL os o=true) (hw:∀ x∈ws,x.key≠o.key):BookOk (putK o os) ws:=
 ⟨h.set.put ho hn hl hr,h.by',h.ok,h.len,fun x hx y hy=>by
  rcases kw.1 hx with e|q
  ·rw [e];exact fun e2=>hw y hy e2.symm
  ·exact h.apart x q y hy⟩
theorem lastC_spec (cl:Int):∀ (os:List Opn) (m:Int),m≤lastC cl os m∧(∀ o∈os,o.cl=cl→o.ck≤lastC cl os m)∧(lastC cl os m=m∨∃ o∈os,o.cl=cl∧o.ck=lastC cl os m)
 | [],m=>⟨Int.le_refl _,fun _ h=>(by cases h),Or.inl rfl⟩
 | o::os,m=>by
  rw [lastC];obtain ⟨h1,h2,h3⟩:=lastC_spec cl os (if o.cl=cl then max m o.ck else m);by_cases hc:o.cl=cl
  ·rw [if_pos hc] at h1 h2 h3 ⊢;refine ⟨by omega,fun x hx hxc=>?_,?_⟩
   ·rcases qu.1 hx with e|q
    ·rw [e];omega
    ·exact h2 x q hxc
   ·rcases h3 with k|⟨x,hx,k⟩
    ·rcases Int.le_total m o.ck with q|q
     ·exact Or.inr ⟨o,qy ..,hc,by omega⟩
     ·exact Or.inl (by omega)
    ·exact Or.inr ⟨x,zb _ hx,k⟩
  ·rw [if_neg hc] at h1 h2 h3 ⊢;refine ⟨h1,fun x hx hxc=>?_,h3.via id fun ⟨x,hx,k⟩=>⟨x,zb _ hx,k⟩⟩;rcases qu.1 hx with e|q
   ·rw [e] at hxc;exact absurd hxc hc
   ·exact h2 x q hxc
theorem lastS_spec:∀ (os:List Opn) (m:Int),m≤lastS os m∧(∀ o∈os,o.st≤lastS os m)
 | [],m=>⟨Int.le_refl _,fun _ h=>(by cases h)⟩
 | o::os,m=>by
  rw [lastS];obtain ⟨h1,h2⟩:=lastS_spec os (max m o.st);refine ⟨by omega,fun x hx=>?_⟩;rcases qu.1 hx with e|q
  ·rw [e];omega
  ·exact h2 x q
def ownL (cl:Int) (os:List Opn) (o:Opn):Opn:=⟨o.kd,cl,lastC cl os 0+1,lastS os 0+1,o.rf,o.ch⟩
def roomL (cl:Int) (os:List Opn):Bool:=decide (120≤os.length)||(decide (1048575≤lastC cl os 0)||decide (1073741823≤lastS os 0))
theorem own_key (h:SetOk os) (hr:roomL cl os=false):∀ x∈os,x.key≠(ownL cl os o).key:=fun x hx e=>by
 obtain ⟨h1,h2,-⟩:=Qn (h.ok x hx);unfold roomL at hr;simp only [jf,decide_eq_false_iff_not] at hr;obtain ⟨c1,c2,-⟩:=lastC_spec cl os 0;obtain ⟨e1,e2⟩:=key_parts (a:=x.cl) (c:=x.ck) (a':=cl) (c':=lastC cl os 0+1) (by omega) (by omega) e;have:=c2 x hx e1;omega
theorem own_ready (h:SetOk os) (hrf:o.rf=0∨∃ p∈os,p.key=o.rf∧p.kd=1):readyL os (ownL cl os o)=true:=by
 refine (Qt h.by' _).2 ⟨?_,?_⟩
 ·obtain ⟨c1,c2,c3⟩:=lastC_spec cl os 0;rcases c3 with k|⟨p,hp,e1,e2⟩
  ·exact Or.inl (by show lastC cl os 0+1≤1;omega)
  ·refine Or.inr ⟨p,hp,?_⟩;show p.cl*1048576+p.ck=cl*1048576+(lastC cl os 0+1-1);rw [e1,e2];omega
 ·refine hrf.via id fun ⟨p,hp,k1,k2⟩=>⟨p,hp,k1,k2,?_⟩;have:=(lastS_spec os 0).2 p hp;show p.st<lastS os 0+1;omega
theorem own_ok (h:SetOk os) (hcl:1≤cl∧cl≤1048575) (hr:roomL cl os=false) (hrf:o.rf=0∨∃ p∈os,p.key=o.rf∧p.kd=1) (hk:(o.kd=1∧okChar o.ch=true)∨(o.kd=2∧o.ch=0∧o.rf≠0)):(ownL cl os o).ok=true:=by
 have hne:=own_key (o:=o) h hr;have c1:=(lastC_spec cl os 0).1;have s1:=(lastS_spec os 0).1;have hf:okKey o.rf=true∨o.rf=0:=hrf.elim Or.inr fun ⟨p,hp,k1,_⟩=>Or.inl (k1▸okKey_of (h.ok p hp))
 have hn:(ownL cl os o).key≠o.rf:=by
  rcases hrf with k|⟨p,hp,k1,-⟩
  ·rw [k];show cl*1048576+(lastC cl os 0+1)≠0;omega
  ·rw [← k1];exact fun e=>hne p hp e.symm
 unfold roomL at hr;simp only [jf,decide_eq_false_iff_not] at hr;show okOp o.kd cl (lastC cl os 0+1) (lastS os 0+1) o.rf o.ch=true;unfold okOp;simp only [qx,Bool.not_eq_true',decide_eq_true_eq,decide_eq_false_iff_not];refine ⟨⟨⟨⟨⟨⟨⟨by omega,by omega⟩,by omega⟩,by omega⟩,by omega⟩,by omega⟩,hn⟩,?_⟩;rcases hk with ⟨k1,k2⟩|⟨k1,k2,k3⟩
 ·rw [if_pos k1,k2];rcases hf with q|q<;>simp [q]
 ·rw [if_neg (by omega)];rcases hf with q|q
  ·simp [q,k1,k2]
  ·exact absurd q k3
