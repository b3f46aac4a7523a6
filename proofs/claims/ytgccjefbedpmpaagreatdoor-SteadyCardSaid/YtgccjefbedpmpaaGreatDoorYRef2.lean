import Derived.Test.YtgccjefbedpmpaaGreatDoorYDel
namespace Go.Proofs.YtgccjefbedpmpaaGreatDoor
open Go.RowKit
set_option maxRecDepth 100000
set_option maxHeartbeats 8000000
theorem putK_at {os:List Opn} {n:Nat} {o:Opn} (hs:ByKey os) (hn:n≤os.length) (h1:∀ i (h:i<os.length),i<n→os[i].key<o.key) (h2:∀ h:n<os.length,¬ os[n].key<o.key):os.take n++([o]++os.drop n)=putK o os:=by
 have ha:∀ x∈os.take n,x.key<o.key:=fun x hx=>by
  obtain ⟨j,hj,rfl⟩:=List.mem_iff_getElem.1 hx
  rw [List.length_take] at hj
  rw [List.getElem_take]
  exact h1 j (by omega) (by omega)
 have hb:∀ x∈os.drop n,¬ x.key<o.key:=fun x hx=>by
  obtain ⟨j,hj,rfl⟩:=List.mem_iff_getElem.1 hx
  rw [List.length_drop] at hj
  rw [List.getElem_drop]
  have h3:=h2 (by omega)
  rcases Nat.eq_zero_or_pos j with q|q
  ·subst q;exact h3
  ·have:=List.pairwise_iff_getElem.1 hs n (n+j) (by omega) (by omega) (by omega);omega
 have e0:os=os.take n++os.drop n:=(List.take_append_drop n os).symm
 unfold putK
 conv=>rhs;rw [e0]
 rw [List.filter_append,List.filter_append,filter_all (l:=os.take n) (fun x hx=>by simpa using ha x hx),filter_non (l:=os.drop n) (fun x hx=>by simpa using hb x hx),filter_non (p:=fun x=>!decide (x.key<o.key)) (l:=os.take n) (fun x hx=>by simpa using ha x hx),filter_all (p:=fun x=>!decide (x.key<o.key)) (l:=os.drop n) (fun x hx=>by simpa using hb x hx)]
 simp
theorem ops_news {w:World} {g off:Nat} {os:List Opn} (h:OpsAt w g off os) (k:Nat) (ys:List Opn) (hy:∀ i (hi:i<ys.length),os[k+i]?=some ys[i]):∀ j u,(opCs ys)[j]?=some u→w.cell? ((⟨g,off+k*6,none⟩:Addr).add j)=some u:=fun j u hj=>by
 have hlt:j<ys.length*6:=by
  have:=(List.getElem?_eq_some_iff.1 hj).1
  rwa [opCs_len] at this
 have hi:j / 6<ys.length:=by omega
 have h1:=opCs_get ys hi (j:=j % 6) (by omega)
 rw [show j / 6*6+j % 6=j by omega] at h1
 rw [h1] at hj
 obtain ⟨h2,h3⟩:=List.getElem?_eq_some_iff.1 (hy _ hi)
 have h4:=h (k+j / 6) h2 (j % 6) (by omega)
 rw [h3] at h4
 rw [← hj,← h4]
 have ha:(⟨g,off+k*6,none⟩:Addr).add j=⟨g,off+k*6+j,none⟩:=by
  unfold Addr.add
  split
  ·rename_i h;subst h;rfl
  ·rfl
 rw [ha,show off+k*6+j=off+(k+j / 6)*6+j % 6 by omega]
theorem OwnO.at0 {w:World} {B g cap n:Nat} {os:List Opn} (h:OwnO w B (.slice (some ⟨g,0,none⟩) n cap) os):OpsAt w g 0 os:=by
 rcases OwnO.is h with rfl|⟨g',off',e,k⟩
 ·intro i hi;cases hi
 ·cases e;exact k
theorem ownO_nil (w:World) (B:Nat):w.ownsRow B 43 6 (.slice none 0 0) 0 (opCs []):=⟨rfl,Or.inl ⟨rfl,rfl⟩⟩
structure AppG (e size:Nat) (w0 W:World) (v:Value) (n:Nat) (cs:List Value):Prop where
 below:Below w0.heap.size w0 W
 own:W.ownsRow w0.heap.size e size v n cs
theorem AppG.start (e size:Nat) (w0:World):AppG e size w0 w0 (.slice none 0 0) 0 []:=⟨Below.refl _ _,by simp [World.ownsRow]⟩
theorem AppG.app {e size n n':Nat} {w0 W W':World} {v v':Value} {cs cs':List Value} (h:AppG e size w0 W v n cs) (ho:W'.ownsRow w0.heap.size e size v' n' cs') (hg:W.grownBy W' v.ownBlock):AppG e size w0 W' v' n' cs':=⟨h.below.grown hg h.below.size fun b hb=>(h.own.lt b hb).1,ho⟩
theorem AppG.kept {e size n:Nat} {w0 W W':World} {v:Value} {cs:List Value} (h:AppG e size w0 W v n cs) (hb:Below W.heap.size W W'):AppG e size w0 W' v n cs:=⟨h.below.trans (hb.mono h.below.size),own_frame h.own fun g hg=>hb.block g (h.own.lt g hg).2⟩
theorem AppG.alloc {e size n:Nat} {w0 W:World} {v:Value} {cs:List Value} (h:AppG e size w0 W v n cs) (o:Obj):AppG e size w0 (W.alloc o) v n cs:=h.kept (below1' _ _)
theorem AppG.row {e size n:Nat} {w0 W:World} {v:Value} {cs:List Value} (h:AppG e size w0 W v n cs) {b T k:Nat} {f:Nat→Value} (hr:RowIs w0 b T k f):RowIs W b T k f:=hr.below h.below hr.lt
theorem ops_take {w:World} {g:Nat} {os:List Opn} (h:OpsAt w g 0 os) (n:Nat):∀ j u,(opCs (os.take n))[j]?=some u→w.cell? ((⟨g,0,none⟩:Addr).add j)=some u:=
 ops_news h 0 (os.take n) fun i hi=>by
  rw [List.length_take] at hi
  rw [Nat.zero_add,List.getElem_take,List.getElem?_eq_getElem]
theorem ops_drop {w:World} {g:Nat} {os:List Opn} (h:OpsAt w g 0 os) (n:Nat):∀ j u,(opCs (os.drop n))[j]?=some u→w.cell? ((⟨g,n*6,none⟩:Addr).add j)=some u:=by
 have:=ops_news h n (os.drop n) fun i hi=>by
  rw [List.length_drop] at hi
  rw [List.getElem_drop,List.getElem?_eq_getElem]
 rwa [Nat.zero_add] at this
theorem AppG.ownO {w w0 W:World} {v:Value} {n:Nat} {cs:List Value} {os:List Opn} (h:AppG 43 6 w0 W v n cs) (hB:w.heap.size≤w0.heap.size) (hn:n=os.length) (hc:cs=opCs os):OwnO W w.heap.size v os:=by
 subst hn hc
 exact h.own.mono hB
theorem infoKn:(Tryz.prog.info? 157).map (fun i=>(i.zero,i.size,i.bytes))=some (some (.agg #[.int .i64 0,.int .u32 0,.int .u32 0,.int .u32 0,.int .u64 0,.int .i32 0,.string ⟨#[]⟩,.string ⟨#[]⟩]),8,72):=by kernel_rfl
def kn8 (o:Opn) (r d:ByteArray):List Value:=[.int .i64 o.kd,.int .u32 o.cl,.int .u32 o.ck,.int .u32 o.st,.int .u64 o.rf,.int .i32 o.ch,.string r,.string d]
def knCs:List Opn→List Value
 | []=>[]
 | o::os=>kn8 o (rkS o) (dgS o)++knCs os
theorem knCs_app (a b:List Opn):knCs (a++b)=knCs a++knCs b:=by
 induction a with
 | nil=>rfl
 | cons o a ih=>simp only [List.cons_append,knCs,ih,List.append_assoc]
theorem knCs_len (os:List Opn):(knCs os).length=os.length*8:=by
 induction os with
 | nil=>rfl
 | cons o os ih=>simp only [knCs,kn8,List.length_append,List.length_cons,ih,List.length_nil];omega
theorem knCs_one (os:List Opn):∀ u∈knCs os,u.oneCell'=true:=by
 induction os with
 | nil=>intro u h;cases h
 | cons o os ih=>
  intro u h
  simp only [knCs,kn8,List.mem_append] at h
  rcases h with h|h
  ·simp only [List.mem_cons,List.not_mem_nil,or_false] at h
   rcases h with h|h|h|h|h|h|h|h<;>(subst h;rfl)
  ·exact ih u h
theorem knCs_get:∀ (os:List Opn) {i j:Nat} (hi:i<os.length),j<8→(knCs os)[i*8+j]?=some (knV os[i] j)
 | o::os,0,j,_,hj=>by
  rw [Nat.zero_mul,Nat.zero_add,knCs,List.getElem?_append_left (by simp [kn8];omega)]
  match j,hj with
  | 0,_=>rfl
  | 1,_=>rfl
  | 2,_=>rfl
  | 3,_=>rfl
  | 4,_=>rfl
  | 5,_=>rfl
  | 6,_=>rfl
  | 7,_=>rfl
 | o::os,i+1,j,hi,hj=>by
  rw [knCs,List.getElem?_append_right (by simp [kn8];omega)]
  have:(i+1)*8+j-(kn8 o (rkS o) (dgS o)).length=i*8+j:=by simp [kn8];omega
  rw [this]
  exact knCs_get os (by simpa using hi) hj
def OwnK (w:World) (B:Nat) (v:Value) (os:List Opn):Prop:=w.ownsRow B 157 8 v os.length (knCs os)
theorem OwnK.at0 {w:World} {B g cap n:Nat} {os:List Opn} (h:OwnK w B (.slice (some ⟨g,0,none⟩) n cap) os):KnsAt w g 0 os:=by
 have hn:n=os.length:=by
  rcases h.2 with ⟨e,_⟩|⟨_,_,_,e,_⟩
  ·cases e
  ·cases e;rfl
 subst hn
 intro i hi j hj
 rw [← knCs_get os hi hj]
 have hc:=World.ownsRow.cellAt h (i*8+j) (by omega)
 rw [Nat.zero_add]
 exact hc
theorem OwnK.is {w:World} {B n c:Nat} {a:Option Addr} {os:List Opn} (h:OwnK w B (.slice a n c) os):KnsIs w a os:=by
 rcases h.2 with ⟨e,e1⟩|⟨g,cap,cur,e,_⟩
 ·exact Or.inl (List.length_eq_zero_iff.1 e1)
 ·cases e;exact Or.inr ⟨g,0,rfl,h.at0⟩
theorem ownK_form {w:World} {B:Nat} {v:Value} {os:List Opn} (h:OwnK w B v os):∃ a c,v=.slice a os.length c:=by
 rcases h.2 with ⟨e,e1⟩|⟨g,cap,cur,e,_⟩
 ·exact ⟨none,0,by rw [e,e1]⟩
 ·exact ⟨_,_,e⟩
theorem kns_news {w:World} {g off:Nat} {os:List Opn} (h:KnsAt w g off os) (k:Nat) (ys:List Opn) (hy:∀ i (hi:i<ys.length),os[k+i]?=some ys[i]):∀ j u,(knCs ys)[j]?=some u→w.cell? ((⟨g,off+k*8,none⟩:Addr).add j)=some u:=fun j u hj=>by
 have hlt:j<ys.length*8:=by
  have:=(List.getElem?_eq_some_iff.1 hj).1
  rwa [knCs_len] at this
 have hi:j / 8<ys.length:=by omega
 have h1:=knCs_get ys hi (j:=j % 8) (by omega)
 rw [show j / 8*8+j % 8=j by omega] at h1
 rw [h1] at hj
 obtain ⟨h2,h3⟩:=List.getElem?_eq_some_iff.1 (hy _ hi)
 have h4:=h (k+j / 8) h2 (j % 8) (by omega)
 rw [h3] at h4
 rw [← hj,← h4]
 have ha:(⟨g,off+k*8,none⟩:Addr).add j=⟨g,off+k*8+j,none⟩:=by
  unfold Addr.add
  split
  ·rename_i h;subst h;rfl
  ·rfl
 rw [ha,show off+k*8+j=off+(k+j / 8)*8+j % 8 by omega]
theorem kns_take {w:World} {g:Nat} {os:List Opn} (h:KnsAt w g 0 os) (n:Nat):∀ j u,(knCs (os.take n))[j]?=some u→w.cell? ((⟨g,0,none⟩:Addr).add j)=some u:=
 kns_news h 0 (os.take n) fun i hi=>by
  rw [List.length_take] at hi
  rw [Nat.zero_add,List.getElem_take,List.getElem?_eq_getElem]
theorem kns_drop {w:World} {g:Nat} {os:List Opn} (h:KnsAt w g 0 os) (n:Nat):∀ j u,(knCs (os.drop n))[j]?=some u→w.cell? ((⟨g,n*8,none⟩:Addr).add j)=some u:=by
 have:=kns_news h n (os.drop n) fun i hi=>by
  rw [List.length_drop] at hi
  rw [List.getElem_drop,List.getElem?_eq_getElem]
 rwa [Nat.zero_add] at this
theorem AppG.ownK {w w0 W:World} {v:Value} {n:Nat} {cs:List Value} {os:List Opn} (h:AppG 157 8 w0 W v n cs) (hB:w.heap.size≤w0.heap.size) (hn:n=os.length) (hc:cs=knCs os):OwnK W w.heap.size v os:=by
 subst hn hc
 exact h.own.mono hB
structure KnB (w W:World) (o:Opn):Prop where
 below:Below w.heap.size w W
 roots:RowIs W w.heap.size 80 72 fun j=>.int .u32 (RV j)
 box:RowIs W (w.heap.size+1) 43 6 (opV o)
theorem KnB.kept {w W W2:World} {o:Opn} (h:KnB w W o) (hb:Below W.heap.size W W2):KnB w W2 o:=⟨h.below.trans (hb.mono h.below.size),h.roots.below hb h.roots.lt,h.box.below hb h.box.lt⟩
theorem KnB.new (w:World) (o:Opn):KnB w ((w.alloc (.cells (rowOf 72 fun j=>.int .u32 (RV j)) 80)).alloc (.cells #[.int .i64 o.kd,.int .u32 o.cl,.int .u32 o.ck,.int .u32 o.st,.int .u64 o.rf,.int .i32 o.ch] 43)) o:=
 ⟨(below1' _ _).trans ((below1' _ _).mono (by simp)),(RowIs.new w 80 72 _).below (below1' _ _) (by simp),RowIs.last (n:=6) (f:=opV o) (cs:=#[.int .i64 o.kd,.int .u32 o.cl,.int .u32 o.ck,.int .u32 o.st,.int .u64 o.rf,.int .i32 o.ch]) (by simp) rfl⟩
theorem KnB.app {w w0 W:World} {o:Opn} (h:KnB w w0 o) (hb:Below w0.heap.size w0 W):KnB w W o:=h.kept hb
structure BoxS (w W:World) (o:Opn):Prop where
 below:Below w.heap.size w W
 box:RowIs W w.heap.size 43 6 (opV o)
theorem BoxS.kept {w W W2:World} {o:Opn} (h:BoxS w W o) (hb:Below W.heap.size W W2):BoxS w W2 o:=⟨h.below.trans (hb.mono h.below.size),h.box.below hb h.box.lt⟩
theorem BoxS.new (w:World) (o:Opn):BoxS w (w.alloc (.cells #[.int .i64 o.kd,.int .u32 o.cl,.int .u32 o.ck,.int .u32 o.st,.int .u64 o.rf,.int .i32 o.ch] 43)) o:=⟨below1' _ _,RowIs.last (n:=6) (f:=opV o) (cs:=#[.int .i64 o.kd,.int .u32 o.cl,.int .u32 o.ck,.int .u32 o.st,.int .u64 o.rf,.int .i32 o.ch]) rfl rfl⟩
theorem put_some (g cap:Nat) (os:List Opn) (o:Opn) (w:World) (hO:OwnO w 0 (.slice (some ⟨g,0,none⟩) os.length cap) os) (hs:ByKey os) (hc:∀ x∈os,KeyT x) (ho:KeyT o) (hn:os.length≤1000):Calls Tryz.prog 140 #[.slice (some ⟨g,0,none⟩) os.length cap,.agg #[.int .i64 o.kd,.int .u32 o.cl,.int .u32 o.ck,.int .u32 o.st,.int .u64 o.rf,.int .i32 o.ch]] w fun e w'=>(∃ v,e=.returned v∧OwnO w' w.heap.size v (putK o os))∧Below w.heap.size w w':=by
 obtain ⟨io,oi,oz0,oz1,oz2⟩:=info_parts infoOpB
 have hcp:os.length≤cap:=by
  rcases hO.2 with ⟨e,_⟩|⟨g',cap',cur,e,_,_,h,_⟩
  ·cases e
  ·cases e;exact h
 have hgl:g<w.heap.size:=(World.ownsRow.lt hO g rfl).2
 have HA:=hid2 (OwnO.at0 hO)
 have HC:=hid2 hc
 have HS:=hid2 hs
 have HK:=hid2 ho
 have H0:=hid2 (BoxS.new w o)
 clear hO hc hs ho
 go_enter Tryz.func140,Tryz.ntmps140
 go_wp2_with (go_at_call 124;refine (keyG _ _ _ _ _ _ HK.out.1 HK.out.2 _).mono ?_;rintro e w1 ⟨rfl,hb1⟩;have H1:=hid2 (H0.out.kept hb1);clear H0 hb1)
 go_loopw [5] (fun iv wr=>∃ n:Nat,n≤os.length∧iv=.int .i64 n∧Hid (∀ i (h:i<os.length),i<n→os[i].key<o.key)∧Hid (BoxS w wr o)) (fun iv _=>os.length-(intOf iv).toNat)
 case atStart=>exact ⟨0,Nat.zero_le _,rfl,fun i _ h=>absurd h (Nat.not_lt_zero _),H1⟩
 case round=>
  obtain ⟨n,hnl,rfl,HL,HB⟩:=hrel
  clear H1
  by_cases hlt:n<os.length
  ·have li:(n:Int)<(os.length:Int):=by omega
   have hcs:=(HA.out.below HB.out.below).cells hlt
   simp only [Nat.zero_add] at hcs
   obtain ⟨c0,c1,c2,c3,c4,c5⟩:=hcs
   have HKn:=hid2 (HC.out _ (List.getElem_mem hlt))
   by_cases hk:os[n].cl*1048576+os[n].ck<o.cl*1048576+o.ck
   ·have HN:=hid2 hk
    go_wp2_with (go_at_call 124;refine (keyG _ _ _ _ _ _ HKn.out.1 HKn.out.2 _).mono ?_;rintro e w1 ⟨rfl,hb1⟩;have HT:=hid2 (HB.out.kept hb1);clear hb1)
    go_roundw
    case rel=>exact ⟨n+1,hlt,by go_num,(fun j hj h=>(by
     rcases Nat.lt_or_ge j n with q|q
     ·exact HL.out j hj q
     ·have:j=n:=by omega
      subst this
      exact HN.out):Hid _),HT⟩
    case measure=>simp [intOf];omega
   ·have HE:Hid (os.take n++([o]++os.drop n)=putK o os):=putK_at HS.out hnl HL.out fun _=>hk
    go_wp2_with (first
     | (go_at_call 124;refine (keyG _ _ _ _ _ _ HKn.out.1 HKn.out.2 _).mono ?_;rintro e w1 ⟨rfl,hb1⟩;have HT:=hid2 (HB.out.kept hb1);clear hb1 HB)
     | (at_builtin;refine wpList_append_any rfl (.tmp 25) (.tmp 28) 32 rfl _ 43 io _ 6 40 Tryz.underlying32 oi oz0 oz1 oz2 rfl (by decide) (.slice none 0 0) 0 [] rfl (AppG.start _ _ _).own (some ⟨g,0,none⟩) n cap (opCs (os.take n)) rfl (by rw [opCs_len,List.length_take];omega) (Or.inr ⟨_,rfl,ops_take (HA.out.below HT.out.below) n⟩) (opCs_one _) (by unfold maxLen;omega) (by omega) (Nat.le_refl _) ?_;intro v2 w2 ho2 hg2 hv2;have H2:=hid2 ((AppG.start _ _ _).app ho2 hg2);obtain ⟨q0,q1,q2,q3,q4,q5⟩:=boxCells (H2.out.row HT.out.box);clear ho2 hg2 hv2)
     | (at_builtin;refine wpList_append_any rfl (.tmp 30) (.tmp 32) 32 rfl _ 43 io _ 6 40 Tryz.underlying32 oi oz0 oz1 oz2 rfl (by decide) v2 _ _ rfl (H2.out.alloc _).own (some ⟨w2.heap.size,0,none⟩) 1 1 (opCs [o]) rfl rfl (Or.inr ⟨_,rfl,World.news_of_block (heap_alloc_new w2 _)⟩) (opCs_one _) (by unfold maxLen;omega) (by omega) (H2.out.alloc _).below.size ?_;intro v3 w3 ho3 hg3 hv3;have H3:=hid2 ((H2.out.alloc _).app ho3 hg3);clear ho3 hg3 hv3)
     | (at_builtin;refine wpList_append_any rfl (.tmp 34) (.tmp 37) 32 rfl _ 43 io _ 6 40 Tryz.underlying32 oi oz0 oz1 oz2 rfl (by decide) v3 _ _ rfl H3.out.own (some ⟨g,n*6,none⟩) (os.length-n) (cap-n) (opCs (os.drop n)) rfl (by rw [opCs_len,List.length_drop]) (Or.inr ⟨_,rfl,ops_drop ((HA.out.below HT.out.below).below H3.out.below) n⟩) (opCs_one _) (by unfold maxLen;omega) (by omega) H3.out.below.size ?_;intro v4 w4 ho4 hg4 hv4;have H4:=hid2 (H3.out.app ho4 hg4);clear ho4 hg4 hv4))
    go_ret
    exact ⟨⟨_,rfl,H4.out.ownO HT.out.below.size (by rw [← HE.out];simp;omega) (by rw [← HE.out,opCs_app,opCs_app,List.nil_append,List.append_assoc])⟩,HT.out.below.trans (H4.out.below.mono HT.out.below.size)⟩
  ·obtain rfl:n=os.length:=by omega
   have HE:Hid (os.take os.length++([o]++os.drop os.length)=putK o os):=putK_at HS.out hnl HL.out fun h=>absurd h (Nat.lt_irrefl _)
   have HT:=HB
   clear HB
   rcases Nat.lt_or_ge os.length cap with hcq|hcq
   ·go_wp2_with (first
     | (at_builtin;refine wpList_append_any rfl (.tmp 25) (.tmp 28) 32 rfl _ 43 io _ 6 40 Tryz.underlying32 oi oz0 oz1 oz2 rfl (by decide) (.slice none 0 0) 0 [] rfl (AppG.start _ _ _).own (some ⟨g,0,none⟩) os.length cap (opCs (os.take os.length)) rfl (by rw [opCs_len,List.length_take];omega) (Or.inr ⟨_,rfl,ops_take (HA.out.below HT.out.below) os.length⟩) (opCs_one _) (by unfold maxLen;omega) (by omega) (Nat.le_refl _) ?_;intro v2 w2 ho2 hg2 hv2;have H2:=hid2 ((AppG.start _ _ _).app ho2 hg2);obtain ⟨q0,q1,q2,q3,q4,q5⟩:=boxCells (H2.out.row HT.out.box);clear ho2 hg2 hv2)
     | (at_builtin;refine wpList_append_any rfl (.tmp 30) (.tmp 32) 32 rfl _ 43 io _ 6 40 Tryz.underlying32 oi oz0 oz1 oz2 rfl (by decide) v2 _ _ rfl (H2.out.alloc _).own (some ⟨w2.heap.size,0,none⟩) 1 1 (opCs [o]) rfl rfl (Or.inr ⟨_,rfl,World.news_of_block (heap_alloc_new w2 _)⟩) (opCs_one _) (by unfold maxLen;omega) (by omega) (H2.out.alloc _).below.size ?_;intro v3 w3 ho3 hg3 hv3;have H3:=hid2 ((H2.out.alloc _).app ho3 hg3);clear ho3 hg3 hv3)
     | (at_builtin;refine wpList_append_any rfl (.tmp 34) (.tmp 37) 32 rfl _ 43 io _ 6 40 Tryz.underlying32 oi oz0 oz1 oz2 rfl (by decide) v3 _ _ rfl H3.out.own (some ⟨g,os.length*6,none⟩) 0 (cap-os.length) [] rfl rfl (Or.inr ⟨_,rfl,fun j u h=>(by cases h)⟩) (fun u h=>(by cases h)) (by unfold maxLen;omega) (by omega) H3.out.below.size ?_;intro v4 w4 ho4 hg4 hv4;have H4:=hid2 (H3.out.app ho4 hg4);clear ho4 hg4 hv4))
    go_ret
    exact ⟨⟨_,rfl,H4.out.ownO HT.out.below.size (by rw [← HE.out];simp) (by rw [← HE.out,opCs_app,opCs_app,List.nil_append,List.drop_length];simp [opCs])⟩,HT.out.below.trans (H4.out.below.mono HT.out.below.size)⟩
   ·obtain rfl:os.length=cap:=by omega
    go_wp2_with (first
     | (at_builtin;refine wpList_append_any rfl (.tmp 25) (.tmp 28) 32 rfl _ 43 io _ 6 40 Tryz.underlying32 oi oz0 oz1 oz2 rfl (by decide) (.slice none 0 0) 0 [] rfl (AppG.start _ _ _).own (some ⟨g,0,none⟩) os.length os.length (opCs (os.take os.length)) rfl (by rw [opCs_len,List.length_take];omega) (Or.inr ⟨_,rfl,ops_take (HA.out.below HT.out.below) os.length⟩) (opCs_one _) (by unfold maxLen;omega) (by omega) (Nat.le_refl _) ?_;intro v2 w2 ho2 hg2 hv2;have H2:=hid2 ((AppG.start _ _ _).app ho2 hg2);obtain ⟨q0,q1,q2,q3,q4,q5⟩:=boxCells (H2.out.row HT.out.box);clear ho2 hg2 hv2)
     | (at_builtin;refine wpList_append_any rfl (.tmp 30) (.tmp 32) 32 rfl _ 43 io _ 6 40 Tryz.underlying32 oi oz0 oz1 oz2 rfl (by decide) v2 _ _ rfl (H2.out.alloc _).own (some ⟨w2.heap.size,0,none⟩) 1 1 (opCs [o]) rfl rfl (Or.inr ⟨_,rfl,World.news_of_block (heap_alloc_new w2 _)⟩) (opCs_one _) (by unfold maxLen;omega) (by omega) (H2.out.alloc _).below.size ?_;intro v3 w3 ho3 hg3 hv3;have H3:=hid2 ((H2.out.alloc _).app ho3 hg3);clear ho3 hg3 hv3)
     | (at_builtin;refine wpList_append_any rfl (.tmp 34) (.tmp 37) 32 rfl _ 43 io _ 6 40 Tryz.underlying32 oi oz0 oz1 oz2 rfl (by decide) v3 _ _ rfl H3.out.own (some ⟨g,0,none⟩) 0 0 [] rfl rfl (Or.inr ⟨_,rfl,fun j u h=>(by cases h)⟩) (fun u h=>(by cases h)) (by unfold maxLen;omega) (by omega) H3.out.below.size ?_;intro v4 w4 ho4 hg4 hv4;have H4:=hid2 (H3.out.app ho4 hg4);clear ho4 hg4 hv4))
    go_ret
    exact ⟨⟨_,rfl,H4.out.ownO HT.out.below.size (by rw [← HE.out];simp) (by rw [← HE.out,opCs_app,opCs_app,List.nil_append,List.drop_length];simp [opCs])⟩,HT.out.below.trans (H4.out.below.mono HT.out.below.size)⟩
theorem put_nil (o:Opn) (w:World) (ho:KeyT o):Calls Tryz.prog 140 #[.slice none 0 0,.agg #[.int .i64 o.kd,.int .u32 o.cl,.int .u32 o.ck,.int .u32 o.st,.int .u64 o.rf,.int .i32 o.ch]] w fun e w'=>(∃ v,e=.returned v∧OwnO w' w.heap.size v [o])∧Below w.heap.size w w':=by
 obtain ⟨io,oi,oz0,oz1,oz2⟩:=info_parts infoOpB
 have HK:=hid2 ho
 have H0:=hid2 (BoxS.new w o)
 clear ho
 go_enter Tryz.func140,Tryz.ntmps140
 go_wp2_with (go_at_call 124;refine (keyG _ _ _ _ _ _ HK.out.1 HK.out.2 _).mono ?_;rintro e w1 ⟨rfl,hb1⟩;have H1:=hid2 (H0.out.kept hb1);clear H0 hb1)
 go_loopw [5] (fun iv wr=>iv=.int .i64 0∧Hid (BoxS w wr o)) (fun _ _=>0)
 case atStart=>exact ⟨rfl,H1⟩
 case round=>
  obtain ⟨rfl,HT⟩:=hrel
  clear H1
  go_wp2_with (first
   | (at_builtin;refine wpList_append_any rfl (.tmp 25) (.tmp 28) 32 rfl _ 43 io _ 6 40 Tryz.underlying32 oi oz0 oz1 oz2 rfl (by decide) (.slice none 0 0) 0 [] rfl (AppG.start _ _ _).own none 0 0 [] rfl rfl (Or.inl ⟨rfl,rfl⟩) (fun u h=>(by cases h)) (by unfold maxLen;omega) (by omega) (Nat.le_refl _) ?_;intro v2 w2 ho2 hg2 hv2;have H2:=hid2 ((AppG.start _ _ _).app ho2 hg2);obtain ⟨q0,q1,q2,q3,q4,q5⟩:=boxCells (H2.out.row HT.out.box);clear ho2 hg2 hv2)
   | (at_builtin;refine wpList_append_any rfl (.tmp 30) (.tmp 32) 32 rfl _ 43 io _ 6 40 Tryz.underlying32 oi oz0 oz1 oz2 rfl (by decide) v2 _ _ rfl (H2.out.alloc _).own (some ⟨w2.heap.size,0,none⟩) 1 1 (opCs [o]) rfl rfl (Or.inr ⟨_,rfl,World.news_of_block (heap_alloc_new w2 _)⟩) (opCs_one _) (by unfold maxLen;omega) (by omega) (H2.out.alloc _).below.size ?_;intro v3 w3 ho3 hg3 hv3;have H3:=hid2 ((H2.out.alloc _).app ho3 hg3);clear ho3 hg3 hv3)
   | (at_builtin;refine wpList_append_any rfl (.tmp 34) (.tmp 37) 32 rfl _ 43 io _ 6 40 Tryz.underlying32 oi oz0 oz1 oz2 rfl (by decide) v3 _ _ rfl H3.out.own none 0 0 [] rfl rfl (Or.inl ⟨rfl,rfl⟩) (fun u h=>(by cases h)) (by unfold maxLen;omega) (by omega) H3.out.below.size ?_;intro v4 w4 ho4 hg4 hv4;have H4:=hid2 (H3.out.app ho4 hg4);clear ho4 hg4 hv4))
  go_ret
  exact ⟨⟨_,rfl,H4.out.ownO HT.out.below.size rfl rfl⟩,HT.out.below.trans (H4.out.below.mono HT.out.below.size)⟩
theorem put_any (v:Value) (os:List Opn) (o:Opn) (w:World) (hO:OwnO w 0 v os) (hs:ByKey os) (hc:∀ x∈os,KeyT x) (ho:KeyT o) (hn:os.length≤1000):Calls Tryz.prog 140 #[v,.agg #[.int .i64 o.kd,.int .u32 o.cl,.int .u32 o.ck,.int .u32 o.st,.int .u64 o.rf,.int .i32 o.ch]] w fun e w'=>(∃ v,e=.returned v∧OwnO w' w.heap.size v (putK o os))∧Below w.heap.size w w':=by
 rcases hO.2 with ⟨rfl,e⟩|⟨g,cap,cur,rfl,_⟩
 ·obtain rfl:=List.length_eq_zero_iff.1 e
  exact put_nil o w ho
 ·exact put_some g cap os o w hO hs hc ho hn
theorem out_some (g cap n:Nat) (os:List Opn) (w:World) (hO:OwnO w 0 (.slice (some ⟨g,0,none⟩) os.length cap) os) (hlt:n<os.length) (hn:os.length≤1000):Calls Tryz.prog 213 #[.slice (some ⟨g,0,none⟩) os.length cap,.int .i64 n] w fun e w'=>(∃ v,e=.returned v∧OwnO w' w.heap.size v (os.eraseIdx n))∧Below w.heap.size w w':=by
 obtain ⟨io,oi,oz0,oz1,oz2⟩:=info_parts infoOpB
 have hcp:os.length≤cap:=by
  rcases hO.2 with ⟨e,_⟩|⟨g',cap',cur,e,_,_,h,_⟩
  ·cases e
  ·cases e;exact h
 have hgl:g<w.heap.size:=(World.ownsRow.lt hO g rfl).2
 have HA:=hid2 (OwnO.at0 hO)
 have HE:Hid (os.take n++os.drop (n+1)=os.eraseIdx n):=(List.eraseIdx_eq_take_drop_succ os n).symm
 clear hO
 rcases Nat.lt_or_ge (n+1) cap with hcq|hcq
 ·go_enter Tryz.func213,Tryz.ntmps213
  go_wp2_with (first
   | (at_builtin;refine wpList_append_any rfl (.tmp 6) (.tmp 9) 32 rfl _ 43 io _ 6 40 Tryz.underlying32 oi oz0 oz1 oz2 rfl (by decide) (.slice none 0 0) 0 [] rfl (AppG.start _ _ _).own (some ⟨g,0,none⟩) n cap (opCs (os.take n)) rfl (by rw [opCs_len,List.length_take];omega) (Or.inr ⟨_,rfl,ops_take HA.out n⟩) (opCs_one _) (by unfold maxLen;omega) (by omega) (Nat.le_refl _) ?_;intro v2 w2 ho2 hg2 hv2;have H2:=hid2 ((AppG.start _ _ _).app ho2 hg2);clear ho2 hg2 hv2)
   | (at_builtin;refine wpList_append_any rfl (.tmp 11) (.tmp 15) 32 rfl _ 43 io _ 6 40 Tryz.underlying32 oi oz0 oz1 oz2 rfl (by decide) v2 _ _ rfl H2.out.own (some ⟨g,(n+1)*6,none⟩) (os.length-(n+1)) (cap-(n+1)) (opCs (os.drop (n+1))) rfl (by rw [opCs_len,List.length_drop]) (Or.inr ⟨_,rfl,ops_drop (HA.out.below H2.out.below) (n+1)⟩) (opCs_one _) (by unfold maxLen;omega) (by omega) H2.out.below.size ?_;intro v4 w4 ho4 hg4 hv4;have H4:=hid2 (H2.out.app ho4 hg4);clear ho4 hg4 hv4))
  go_ret
  exact ⟨⟨_,rfl,H4.out.ownO (Nat.le_refl _) (by rw [← HE.out];simp;omega) (by rw [← HE.out,opCs_app,List.nil_append])⟩,H4.out.below⟩
 ·obtain ⟨hq1,hq2⟩:n+1=cap∧os.length=n+1:=by omega
  have HD:Hid (os.drop (n+1)=[]):=List.drop_eq_nil_of_le (by omega)
  subst hq1
  go_enter Tryz.func213,Tryz.ntmps213
  go_wp2_with (first
   | (at_builtin;refine wpList_append_any rfl (.tmp 6) (.tmp 9) 32 rfl _ 43 io _ 6 40 Tryz.underlying32 oi oz0 oz1 oz2 rfl (by decide) (.slice none 0 0) 0 [] rfl (AppG.start _ _ _).own (some ⟨g,0,none⟩) n (n+1) (opCs (os.take n)) rfl (by rw [opCs_len,List.length_take];omega) (Or.inr ⟨_,rfl,ops_take HA.out n⟩) (opCs_one _) (by unfold maxLen;omega) (by omega) (Nat.le_refl _) ?_;intro v2 w2 ho2 hg2 hv2;have H2:=hid2 ((AppG.start _ _ _).app ho2 hg2);clear ho2 hg2 hv2)
   | (at_builtin;refine wpList_append_any rfl (.tmp 11) (.tmp 15) 32 rfl _ 43 io _ 6 40 Tryz.underlying32 oi oz0 oz1 oz2 rfl (by decide) v2 _ _ rfl H2.out.own (some ⟨g,0,none⟩) 0 0 [] rfl rfl (Or.inr ⟨_,rfl,fun j u h=>(by cases h)⟩) (fun u h=>(by cases h)) (by unfold maxLen;omega) (by omega) H2.out.below.size ?_;intro v4 w4 ho4 hg4 hv4;have H4:=hid2 (H2.out.app ho4 hg4);clear ho4 hg4 hv4))
  go_ret
  exact ⟨⟨_,rfl,H4.out.ownO (Nat.le_refl _) (by rw [← HE.out,HD.out];simp;omega) (by rw [← HE.out,HD.out,List.nil_append,List.append_nil,List.append_nil])⟩,H4.out.below⟩
theorem out_any (v:Value) (n:Nat) (os:List Opn) (w:World) (hO:OwnO w 0 v os) (hlt:n<os.length) (hn:os.length≤1000):Calls Tryz.prog 213 #[v,.int .i64 n] w fun e w'=>(∃ v,e=.returned v∧OwnO w' w.heap.size v (os.eraseIdx n))∧Below w.heap.size w w':=by
 rcases hO.2 with ⟨rfl,e⟩|⟨g,cap,cur,rfl,_⟩
 ·omega
 ·exact out_some g cap n os w hO hlt hn
end Go.Proofs.YtgccjefbedpmpaaGreatDoor
