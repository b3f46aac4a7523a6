import Derived.Test.YtgccjefbedpmpaaGreatDoorJStD
import Derived.Test.YtgccjefbedpmpaaGreatDoorKTB
import Derived.Test.YtgccjefbedpmpaaGreatDoorKTD
import Derived.Test.YtgccjefbedpmpaaGreatDoorYTk
theorem Exists.via {α:Sort _} {p q:α→Prop} (f:∀ x,p x→q x) (h:∃ x,p x):∃ x,q x:=h.elim fun x k=>⟨x,f x k⟩
namespace Go.Proofs.YtgccjefbedpmpaaGreatDoor
open Go.RowKit Go.MuLone
set_option maxRecDepth 100000
set_option maxHeartbeats 8000000
variable {A B N b e i j m m' n s : Nat} {G X os ws ws' : List Opn} {W' p p' w' : World} {a l l' : List Sp} {cl ss : Int} {o : Opn} {t' : Tr} {top' u v v' v2 vK vK' vW vw : Value} {xs : List Value}
theorem known2_any (w:World) (hE:Env w) (hG:15≤w.heap.size):Cs 17 #[] w fun e w'=>e=.returned (.bool true)∧Bel w w':=by
 have HE:=kr (qd hE hG);have HI:Hid (insN 7 Tr.nil.list [] 0 120=(⟨1,7,1,1,0,120⟩,0,[⟨1,7,1,1,0,120⟩],[])):=kr (by kernel_rfl);have HC:Hid (chL [⟨1,7,1,1,0,120⟩]=[120]):=kr (by kernel_rfl);have HS:lowS [120]=⟨#[120]⟩:=rfl;clear hE hG;go_enter Tryz.func17,Tryz.ntmps17
 go_wp2_with (first
  | (go_at_call 23;refine (H3.out.1.ops).mono ?_;rintro e w4 ⟨⟨s4,rfl,ho4⟩,hb4⟩;obtain ⟨a4,c4,rfl⟩:=kt ho4;rw [H3.out.2.2];have H4:=kr (H3.out.2.1.trans (hb4.mono H3.out.2.1.size));clear ho4 hb4)
  | (go_at_call 26;refine (H2.out.1.textL (cs:=[120]) (by rw [H2.out.2.2];exact HC.out) (fun c hc=>by rw [zo.1 hc];decide)).mono ?_;rw [HS];rintro e w3 ⟨rfl,hb3⟩;have H3:=kr (qd (H2.out.1.below hb3) (qd (H2.out.2.1.trans (hb3.mono H2.out.2.1.size)) H2.out.2.2));clear hb3)
  | (go_at_call 45;refine (H1.out.1.ins (by decide) 0 120).mono ?_;rintro e w2 ⟨he,v2,t2,hA⟩;rw [HI.out] at he hA;subst he;unfold opA;have H2:=kr (qd (hA.one.below (kq w2 (.cells #[.int .i64 1,.int .u32 7,.int .u32 1,.int .u32 1,.int .u64 0,.int .i32 120] 43))) (qd (show Bel w (w2.alloc (.cells #[I6 1,U3 7,U3 1,U3 1,U6 0,I3 120] 43)) from (by have q:=below_but H1.out.2.1 (hA.but.mono fun x e=>e.elim id fun e=>(by cases e)) H1.out.2.2 H1.out.2.1.size;exact q.alloc q.size _)) hA.list));clear hA)
  | (go_at_call 20;refine (new_any 7 _).mono ?_;rintro e w1 ⟨hN,hb1⟩;unfold NewP at hN;rw [if_pos (by decide)] at hN;obtain ⟨b,rfl,hl1,hr1⟩:=hN;have H1:Hid (One w1 b 7 (.slice none 0 0) .nil []∧Bel w w1∧w.heap.size≤b):=kr ⟨One.new hr1 (HE.out.1.below hb1) (qi HE.out.2 hl1),hb1,hl1⟩;clear hb1 hl1 hr1))
 go_ret;exact ⟨rfl,H4.out⟩
def Ranked (rk:Int→Nat) (os:List Opn):Prop:=∀ o∈os,(1 < o.ck→rk (o.key-1) < rk o.key)∧(o.rf=0∨rk o.rf < rk o.key)
def Rkd (os:List Opn):Prop:=∃ rk,Ranked rk os
theorem Rkd.sub {a b:List Opn} (h:Rkd b) (hs:∀ x∈a,x∈b):Rkd a:=h.via fun _ h x hx=>h x (hs x hx)
theorem Rkd.put (h:Rkd os) (hS:SetOk os) (hn:∀ x∈os,x.key≠o.key) (ho:o.ok=true):Rkd (putK o os):=by
 obtain ⟨rk,h⟩:=h;have hne:=(Qn ho).2.2.2;refine ⟨fun k=>if k=o.key then rk (o.key-1)+rk o.rf+1 else rk k,fun x hx=>?_⟩;rcases kw.1 hx with e | q
 ·subst e;refine ⟨fun _=>?_,Or.inr ?_⟩
  ·show (if x.key-1=x.key then _ else _) < if x.key=x.key then _ else _;rw [if_neg (by omega),if_pos rfl];omega
  ·show (if x.rf=x.key then _ else _) < if x.key=x.key then _ else _;rw [if_neg (fun e=>hne e.symm),if_pos rfl];omega
 ·have hk:=hn x q;obtain ⟨h1,h2⟩:=h x q;refine ⟨fun hc=>?_,?_⟩
  ·obtain ⟨p,hp,e⟩:=hS.gap x q hc;have:=hn p hp;show (if x.key-1=o.key then _ else _) < if x.key=o.key then _ else _;rw [if_neg (by omega),if_neg hk];exact h1 hc
  ·rcases hS.ref x q with e | ⟨p,hp,e,-⟩
   ·exact Or.inl e
   ·rcases h2 with e2 | h2
    ·exact Or.inl e2
    ·right;have:=hn p hp;show (if x.rf=o.key then _ else _) < if x.key=o.key then _ else _;rw [if_neg (by omega),if_neg hk];exact h2
theorem Rkd.nil:Rkd []:=⟨fun _=>0,fun _ h=>by cases h⟩
theorem Hist.rkd (h:Hist G):Rkd (setOf G):=by
 induction h using Hist.ind with
 | nil=>exact Rkd.nil
 | snoc h ho hn hr _ hl ih=>rw [setOf_snoc];exact ih.put h.set (fun x hx=>hn x (Qm.1 hx)) ho
theorem find_in (hi:ws.findIdx? (readyL os)=some i):getO ws[i]?∈ws∧readyL os (getO ws[i]?)=true:=by
 obtain ⟨hi1,hi2,-⟩:=zx.1 hi;have e:getO ws[i]?=ws[i]:=by rw [qk hi1];rfl
 rw [e];exact ⟨qn hi1,hi2⟩
theorem takeN_rkd:∀ (n:Nat) {os ws:List Opn},BookOk os ws→Rkd os→Rkd (takeN n os ws).1
 | 0,_,_,_,h=>h
 | n+1,os,ws,hB,h=>by
  unfold takeN;split
  ·exact h
  ·split
   ·exact h
   ·rename_i hl _ i hi;obtain ⟨h1,h2⟩:=find_in hi;exact takeN_rkd n (hB.next hl hi) (h.put hB.set (fun x hx=>hB.apart x hx _ h1) (hB.ok _ h1))
theorem takeN_in:∀ (n:Nat) (os ws:List Opn),∀ x∈os,x∈(takeN n os ws).1
 | 0,_,_,_,h=>h
 | n+1,os,ws,x,h=>by
  unfold takeN;split
  ·exact h
  ·split
   ·exact h
   ·exact takeN_in n _ _ x (kw.2 (Or.inr h))
theorem takeN_from:∀ (n:Nat) (os ws:List Opn),(∀ x∈(takeN n os ws).1,x∈os∨x∈ws)∧∀ x∈(takeN n os ws).2,x∈ws
 | 0,_,_=>⟨fun _ h=>Or.inl h,fun _ h=>h⟩
 | n+1,os,ws=>by
  unfold takeN;split
  ·exact ⟨fun _ h=>Or.inl h,fun _ h=>h⟩
  ·split
   ·exact ⟨fun _ h=>Or.inl h,fun _ h=>h⟩
   ·rename_i hl _ i hi;obtain ⟨h1,h2⟩:=takeN_from n (putK (getO ws[i]?) os) (ws.eraseIdx i);refine ⟨fun x hx=>?_,fun x hx=>jy (h2 x hx)⟩;rcases h1 x hx with k | k
    ·rcases kw.1 k with e | k
     ·rw [e];exact Or.inr (find_in hi).1
     ·exact Or.inl k
    ·exact Or.inr (jy k)
theorem takeN_done:∀ (n:Nat) (os ws:List Opn),ws.length≤n→(∀ x∈(takeN n os ws).2,readyL (takeN n os ws).1 x=false)∨120≤(takeN n os ws).1.length
 | 0,_,ws,h=>Or.inl fun x hx=>by rw [zy.1 (Nat.le_zero.1 h)] at hx;cases hx
 | n+1,os,ws,h=>by
  unfold takeN;split
  ·rename_i h1;exact Or.inr h1
  ·split
   ·rename_i hi;exact Or.inl fun x hx=>List.findIdx?_eq_none_iff.1 hi x hx
   ·rename_i hl _ i hi;obtain ⟨hi1,-,-⟩:=zx.1 hi;exact takeN_done n _ _ (by rw [List.length_eraseIdx_of_lt hi1];omega)
theorem addN_sub (os ws:List Opn) (o:Opn):∀ x∈os,x∈(addN os ws o).2.1:=fun x hx=>by
 unfold addN;split
 ·exact hx
 ·split
  ·exact hx
  ·split
   ·split
    ·exact hx
    ·exact takeN_in _ _ _ x (kw.2 (Or.inr hx))
   ·split
    ·exact hx
    ·exact hx
theorem addN_rkd (hB:BookOk os ws) (h:Rkd os):Rkd (addN os ws o).2.1:=by
 unfold addN;split
 ·exact h
 ·rename_i h0;split
  ·exact h
  ·rename_i h1;simp only [Bool.not_eq_false] at h0;simp only [Bool.not_eq_true] at h1;split
   ·rename_i h2;split
    ·exact h
    ·rename_i h3;obtain ⟨k1,k2⟩:=jf.1 h1;exact takeN_rkd _ (add_put hB h0 h1 h3 h2) (h.put hB.set (any_not k1) h0)
   ·split
    ·exact h
    ·exact h
theorem addsN_cons (os ws l:List Opn) (o:Opn):addsN os ws (o::l)=addsN (addN os ws o).2.1 (addN os ws o).2.2 l:=rfl
theorem addsN_app (a b:List Opn):∀ (os ws:List Opn),addsN os ws (a++b)=addsN (addsN os ws a).1 (addsN os ws a).2 b:=by
 induction a with
 | nil=>intro os ws;rfl
 | cons o a ih=>intro os ws;rw [jn,addsN_cons,addsN_cons,ih]
theorem addsN_sub:∀ (l os ws:List Opn),∀ x∈os,x∈(addsN os ws l).1
 | [],_,_,_,h=>h
 | o::l,os,ws,x,h=>by rw [addsN_cons];exact addsN_sub l _ _ x (addN_sub os ws o x h)
theorem addsN_rkd:∀ (l:List Opn) {os ws:List Opn},BookOk os ws→Rkd os→Rkd (addsN os ws l).1
 | [],_,_,_,h=>h
 | o::l,os,ws,hB,h=>by rw [addsN_cons];exact addsN_rkd l (addN_ok hB) (addN_rkd hB h)
theorem byKey_same:∀ {a b:List Opn},ByKey a→ByKey b→(∀ x,x∈a↔x∈b)→a=b
 | [],[],_,_,_=>rfl
 | [],y::b,_,_,h=>absurd ((h y).2 (qy ..)) (by simp)
 | x::a,[],_,_,h=>absurd ((h x).1 (qy ..)) (by simp)
 | x::a,y::b,ha,hb,h=>by
  obtain ⟨h1,h2⟩:=js.1 ha;obtain ⟨k1,k2⟩:=js.1 hb
  have e:x=y:=by
   rcases qu.1 ((h x).1 (qy ..)) with e | q
   ·exact e
   ·rcases qu.1 ((h y).2 (qy ..)) with e | q2
    ·exact e.symm
    ·have:=k1 x q;have:=h1 y q2;omega
  subst e;rw [byKey_same h2 k2 fun z=>⟨fun hz=>?_,fun hz=>?_⟩]
  ·rcases qu.1 ((h z).1 (zb _ hz)) with e | q
   ·subst e;exact absurd (h1 z hz) (Int.lt_irrefl _)
   ·exact q
  ·rcases qu.1 ((h z).2 (zb _ hz)) with e | q
   ·subst e;exact absurd (k1 z hz) (Int.lt_irrefl _)
   ·exact q
structure Clo (X os ws:List Opn):Prop where
 ok:BookOk os ws
 sub:∀ x∈os,x∈X
 wsub:∀ x∈ws,x∈X
 calm:(∀ x∈ws,readyL os x=false)∨120≤os.length
theorem Clo.nil (X:List Opn):Clo X [] []:=⟨.nil,fun _ h=>(by cases h),fun _ h=>(by cases h),Or.inl fun _ h=>(by cases h)⟩
theorem Clo.le (h:Clo X os ws):os.length≤X.length:=nodup_len h.ok.set.by'.nodup h.sub
theorem Clo.full (h:Clo X os ws) (hX:ByKey X) (hl:X.length≤os.length):os=X:=by
 refine byKey_same h.ok.set.by' hX fun x=>⟨h.sub x,fun hx=>?_⟩
 refine Classical.byContradiction fun hn=>?_
 have:=nodup_len (List.nodup_cons.2 ⟨hn,h.ok.set.by'.nodup⟩) (fun y hy=>by
  rcases qu.1 hy with e | q
  ·rw [e];exact hx
  ·exact h.sub y q)
 simp only [qp] at this;omega
theorem Clo.add (h:Clo X os ws) (ho:o∈X):Clo X (addN os ws o).2.1 (addN os ws o).2.2:=by
 refine ⟨addN_ok h.ok,?_,?_,?_⟩
 ·unfold addN;split
  ·exact h.sub
  ·split
   ·exact h.sub
   ·split
    ·split
     ·exact h.sub
     ·intro x hx;rcases (takeN_from _ _ _).1 x hx with k | k
      ·rcases kw.1 k with e | k
       ·rw [e];exact ho
       ·exact h.sub x k
      ·exact h.wsub x k
    ·split
     ·exact h.sub
     ·exact h.sub
 ·unfold addN;split
  ·exact h.wsub
  ·split
   ·exact h.wsub
   ·split
    ·split
     ·exact h.wsub
     ·exact fun x hx=>h.wsub x ((takeN_from _ _ _).2 x hx)
    ·split
     ·exact h.wsub
     ·intro x hx;rcases kw.1 hx with e | k
      ·rw [e];exact ho
      ·exact h.wsub x k
 ·unfold addN;split
  ·exact h.calm
  ·split
   ·exact h.calm
   ·split
    ·split
     ·exact h.calm
     ·exact takeN_done _ _ _ (qb _)
    ·rename_i hr;split
     ·exact h.calm
     ·rcases h.calm with k | k
      ·refine Or.inl fun x hx=>?_;rcases kw.1 hx with e | q
       ·rw [e];simpa using hr
       ·exact k x q
      ·exact Or.inr k
theorem Clo.adds {X:List Opn}:∀ {l os ws:List Opn},Clo X os ws→(∀ o∈l,o∈X)→Clo X (addsN os ws l).1 (addsN os ws l).2
 | [],_,_,h,_=>h
 | o::l,os,ws,h,hl=>by rw [addsN_cons];exact Clo.adds (h.add (hl o (qy ..))) fun x hx=>hl x (zb _ hx)
theorem min_rank (rk:Int→Nat):∀ (l:List Opn),l≠[]→∃ o∈l,∀ x∈l,rk o.key≤rk x.key
 | [],h=>absurd rfl h
 | [o],_=>⟨o,qy ..,fun x hx=>by rw [zo.1 hx];exact qb _⟩
 | a::b::l,_=>by
  obtain ⟨o,ho,hm⟩:=min_rank rk (b::l) (by simp);rcases Nat.le_total (rk a.key) (rk o.key) with k | k
  ·exact ⟨a,qy ..,fun x hx=>by
    rcases qu.1 hx with e | q
    ·rw [e];exact qb _
    ·exact qi k (hm x q)⟩
  ·exact ⟨o,zb _ ho,fun x hx=>by
    rcases qu.1 hx with e | q
    ·rw [e];exact k
    ·exact hm x q⟩
theorem Clo.next (h:Clo X os ws) (hX:SetOk X) (hR:Rkd X) (hl:os.length≠X.length):∃ o∈X,o ∉ os∧readyL os o=true:=by
 classical
 obtain ⟨rk,hR⟩:=hR
 have hne:(X.filter fun x=>decide (x ∉ os))≠[]:=fun e=>by
  have hs:∀ x∈X,x∈os:=fun x hx=>Classical.byContradiction fun hn=>by
   have:x∈X.filter fun x=>decide (x ∉ os):=qo.2 ⟨hx,by simpa using hn⟩;rw [e] at this;cases this
  have:=nodup_len hX.by'.nodup hs
  have:=h.le;omega
 obtain ⟨o,ho,hm⟩:=min_rank rk _ hne;obtain ⟨ho1,ho2⟩:=qo.1 ho;have ho2:o ∉ os:=by simpa using ho2
 obtain ⟨r1,r2⟩:=hR o ho1
 have low:∀ p∈X,rk p.key < rk o.key→p∈os:=fun p hp hlt=>Classical.byContradiction fun hn=>by
  have:=hm p (qo.2 ⟨hp,by simpa using hn⟩);omega
 refine ⟨o,ho1,ho2,(Qt h.ok.set.by' o).2 ⟨?_,?_⟩⟩
 ·rcases jg 1 o.ck with g | g
  ·obtain ⟨p,hp,e⟩:=hX.gap o ho1 g;refine Or.inr ⟨p,low p hp (by rw [e];exact r1 g),?_⟩;rw [e];unfold Opn.key;omega
  ·exact Or.inl g
 ·rcases hX.ref o ho1 with e | ⟨p,hp,e,k⟩
  ·exact Or.inl e
  ·rcases r2 with e2 | r2
   ·exact Or.inl e2
   ·exact Or.inr ⟨p,low p hp (by rw [e];exact r2),e,k⟩
theorem Clo.turn (h:Clo X os ws) (hX:SetOk X) (hR:Rkd X):(addsN os ws X).1.length=X.length∨os.length+1≤(addsN os ws X).1.length:=by
 have h9:=h.adds (l:=X) (fun _ h=>h);by_cases hl:os.length=X.length
 ·left;have:=nodup_len h.ok.set.by'.nodup (addsN_sub X os ws)
  have:=h9.le;omega
 ·right;obtain ⟨o,ho,hn,hr⟩:=h.next hX hR hl
  have key:o∈(addsN os ws X).1:=by
   obtain ⟨A,B,e⟩:=List.append_of_mem ho;have hA:Clo X (addsN os ws A).1 (addsN os ws A).2:=h.adds fun x hx=>by rw [e];exact zh _ hx
   have hs:=addsN_sub A os ws;rw [e,addsN_app,addsN_cons];refine addsN_sub B _ _ o ?_;generalize (addsN os ws A).1=os1 at *;generalize (addsN os ws A).2=ws1 at *;by_cases hin:o∈os1
   ·exact addN_sub os1 ws1 o o hin
   ·have hr1:=ready_mono h.ok.set.by' hA.ok.set.by' hs hr
    have hlen:¬ 120≤os1.length:=fun q=>hin (by rw [hA.full hX.by' (by have:=hX.len;omega)];exact ho)
    have hw:o ∉ ws1:=fun q=>by
     rcases hA.calm with k | k
     ·have:=k o q;rw [hr1] at this;cases this
     ·exact hlen k
    have h1:(os1.any (fun x=>decide (x.key=o.key))||ws1.any (fun x=>decide (x.key=o.key)))=false:=by
     rw [jf]
     exact ⟨List.any_eq_false.2 fun x hx=>by
      simp only [decide_eq_true_eq]
      exact fun e=>hin (by rw [← Qh hX.by' (hA.sub x hx) ho e];exact hx),List.any_eq_false.2 fun x hx=>by
      simp only [decide_eq_true_eq]
      exact fun e=>hw (by rw [← Qh hX.by' (hA.wsub x hx) ho e];exact hx)⟩
    unfold addN;rw [hX.ok o ho,h1,hr1,if_neg (by decide),if_neg (by decide),if_pos rfl,if_neg hlen];exact takeN_in _ _ _ o (kw.2 (Or.inl rfl))
  have:=nodup_len (List.nodup_cons.2 ⟨hn,h.ok.set.by'.nodup⟩) (m:=(addsN os ws X).1) (fun y hy=>by
   rcases qu.1 hy with e | q
   ·rw [e];exact key
   ·exact addsN_sub X os ws y q)
  simpa using this
def SpsOk (l:List Sp):Prop:=∀ s∈l,SpOk s
def Goods (L:List (List Int)):Prop:=∀ bs∈L,∃ f,Good f bs
theorem wholeS_ok:SpOk wholeS:=by unfold SpOk wholeS;decide
theorem cutS_ok {s:Sp} {k:Int} (h:SpOk s) (h1:s.lo≤k) (h2:k < s.hi):SpsOk (cutS s k):=fun x hx=>by
 unfold cutS at hx;obtain ⟨h3,h4⟩:=qo.1 hx;obtain ⟨a1,a2,a3⟩:=h;have h4:x.lo≠x.hi:=by simpa [emp] using h4
 simp only [qu,yr,or_false] at h3;rcases h3 with rfl | rfl | rfl
 ·exact ⟨a1,by dsimp at *;omega,by dsimp at *;omega⟩
 ·exact ⟨by dsimp;omega,by dsimp;omega,by dsimp;omega⟩
 ·exact ⟨by dsimp;omega,by dsimp at *;omega,a3⟩
theorem SpsOk.app {b:List Sp} (ha:SpsOk a) (hb:SpsOk b):SpsOk (a++b):=fun s hs=>(zd.1 hs).elim (ha s) (hb s)
theorem SpsOk.take (ha:SpsOk a) (n:Nat):SpsOk (a.take n):=fun s hs=>ha s (jb hs)
theorem SpsOk.drop (ha:SpsOk a) (n:Nat):SpsOk (a.drop n):=fun s hs=>ha s (List.mem_of_mem_drop hs)
theorem endL_ok (h:SpsOk l):SpsOk (endL l i)∧(endL l i).length≤l.length+2:=by
 unfold endL;split
 ·exact ⟨fun s hs=>by rw [zo.1 hs];exact wholeS_ok,by simp⟩
 ·exact ⟨(h.take i).app (h.drop _),by simp;omega⟩
theorem give_goods (hs:1≤ss∧ss≤1073741823) (hb:ByKey os) (ho:∀ o∈os,o.ok=true∧OpT o):Goods (giveL ss os):=fun bs hm=>by
 unfold giveL at hm;obtain ⟨i,hi,rfl⟩:=jt.1 hm;have hi:=List.mem_range.1 hi;have hsub:(sixO os i).Sublist os:=(List.take_sublist _ _).trans (List.drop_sublist _ _);have hl:(sixO os i).length=min 6 (os.length-i*6):=by unfold sixO;simp
 have k:=give_ok hs (os:=sixO os i) (by omega) (by omega) (hb.sublist hsub) (fun o h=>ho o (hsub.mem h));exact ⟨_,k.1,k.2.t,rfl⟩
theorem ask_goods {t:Tr} (hs:1≤ss∧ss≤1073741823) (h:SpsOk l):Goods (l.map fun s=>packL (askF ss t s)):=fun bs hm=>by
 obtain ⟨s,hi,rfl⟩:=jt.1 hm;have k:=ask_ok (t:=t) hs (h s hi);exact ⟨_,k.1,k.2.t,rfl⟩
structure Hears (os:List Opn) (l:List Sp) (os':List Opn) (l':List Sp) (sent:List (List Int)):Prop where
 sub:∀ x∈os,x∈os'
 rkd:Rkd os'
 sps:SpsOk l'
 len:l'.length≤l.length+2
 good:Goods sent
 few:sent.length≤100
theorem hears_ok {w:World} {st:Int} {top:Value} {t:Tr} {bs:List Int} {sent:List (List Int)} {n:Int} (hT:TalkIs w b st cl ss top vW vK t ws l) (hT':TalkIs w' b st cl ss top' v' vK' t' ws' l') (h:HeardR t ws l ss bs t' ws' l' sent n) (hb:Byt bs) (hss:1≤ss∧ss≤1073741823) (hR:Rkd t.list) (hS:SpsOk l):Hears t.list l t'.list l' sent:=by
 have nil:Goods []:=fun _ h=>by cases h
 rcases h with ⟨-,rfl,rfl,rfl,rfl,-⟩ | ⟨f,hf,h⟩
 ·exact ⟨fun _ h=>h,hR,hS,by omega,nil,by simp⟩
 have G:=frG_of hb hf;rcases h with ⟨hk,rfl,rfl,rfl,rfl,-⟩ | ⟨hk,ht,rfl,rfl,rfl,-⟩ | ⟨hk,-,-,rfl,rfl,rfl,rfl,-⟩ | ⟨h1,h5,hs,-,hA,-⟩
 ·refine ⟨fun _ h=>h,hR,hS,by omega,fun x hx=>?_,by simp⟩;rw [zo.1 hx];have h6:=hT.six f.lo f.hi;have k:=answ_ok (d0:=f.d0) (d1:=f.d1) (d2:=f.d2) G.ss (G.rng (by rw [hk];decide)) h6.2.2.1 h6.2.2.2;exact ⟨_,k.1,k.2.t,rfl⟩
 ·rw [ht];exact ⟨addsN_sub _ _ _,addsN_rkd _ hT.ok hR,hS,by omega,nil,by simp⟩
 ·exact ⟨fun _ h=>h,hR,hS,by omega,nil,by simp⟩
 ·rcases hA with ⟨-,ht,rfl,rfl,rfl⟩ | ⟨i,hi,hl,-,ht,-,hA⟩
  ·rw [ht];exact ⟨fun _ h=>h,hR,hS,by omega,nil,by simp⟩
  ·have hsub:∀ x∈t.list,x∈t'.list:=by rw [ht];exact addsN_sub _ _ _
   have hrk:Rkd t'.list:=by rw [ht];exact addsN_rkd _ hT.ok hR
   rcases hA with ⟨-,rfl,rfl⟩ | ⟨-,⟨o,r,ho,rfl⟩,rfl⟩ | ⟨-,rfl,rfl⟩
   ·exact ⟨hsub,hrk,(endL_ok hS).1,(endL_ok hS).2,nil,by simp⟩
   ·have hin:=G.ins h5 o (by rw [ho];exact qy ..);have hc:=cutS_ok (k:=o.key) (hS _ (qn hi)) (by rw [hl];exact hin.1) (by rw [hl];exact hin.2);refine ⟨hsub,hrk,((hS.take i).app hc).app (hS.drop _),?_,nil,by simp⟩;rw [replL_len hi];have:=(cutS_len l[i] o.key).2;omega
   ·have h6:=hT'.six f.lo f.hi;have hs2:(lackL (t'.rng f.lo f.hi).list f.ops).Sublist (t'.rng f.lo f.hi).list:=z8;exact ⟨hsub,hrk,hS,by omega,give_goods hss (h6.2.2.1.sublist hs2) fun o ho=>⟨(h6.2.2.2 o (hs2.mem ho)).1,(h6.2.2.2 o (hs2.mem ho)).2.1⟩,by have:=hs2.length_le;have:=h6.2.1;unfold giveL;simp;omega⟩
theorem Good.small {f:Frm} {l:List Int} (h:Good f l):Byt l∧l.length≤100000:=by
 have hW:=h.w;refine ⟨by rw [h.2.2];exact h.byt.app (chk_byt _),?_⟩;rw [h.len];have s1:=(vx 9 f.ss.toNat (by have:=hW.ss;omega)).2;have s2:=(vx 9 f.lo.toNat (by have:=hW.lo;omega)).2;have s3:=(vx 9 f.hi.toNat (by have:=hW.hi;omega)).2;have s4:=osB_len f.ops hW.ops;have s5:=hW.n.1
 have h1:(if f.kd≠5 then vn f.lo.toNat++vn f.hi.toNat else []).length≤20:=by
  split
  ·rw [qe];omega
  ·simp
 have h2:(if f.kd=1 then [f.d0,f.d1,f.d2] else []).length≤3:=by
  split <;> simp
 have h3:(if 2 < f.kd then (f.ops.length:Int)::osB f.ops else []).length≤14000:=by
  split
  ·rw [qp];omega
  ·simp
 unfold frB;rw [qp,qe,qe,qe];omega
theorem opn_ext {a b:Opn} (h1:a.kd=b.kd) (h2:a.cl=b.cl) (h3:a.ck=b.ck) (h4:a.st=b.st) (h5:a.rf=b.rf) (h6:a.ch=b.ch):a=b:=by
 cases a;cases b;dsimp only at *;subst h1 h2 h3 h4 h5 h6;rfl
theorem lists_at {xs ys:List Opn} (hl:xs.length=ys.length) (h:∀ j,j < xs.length→getO xs[j]?=getO ys[j]?):xs=ys:=
 List.ext_getElem hl fun j h1 h2=>by have:=h j h1;rw [qk h1,qk h2] at this;exact this
theorem kSame_any (xs ys:List Opn) (a b:Option Addr) (c d:Nat) (w:World) (hx:OpsIs w a xs) (hy:OpsIs w b ys) (hn:xs.length≤1000000):Cs 24 #[.slice a xs.length c,.slice b ys.length d] w fun e w'=>(∃ r:Bool,e=.returned (.bool r)∧(r=true↔xs=ys))∧Bel w w':=by
 by_cases hl:xs.length=ys.length
 ·have hl':((xs.length:Int) != (ys.length:Int))=false:=by simp [hl]
  have HX:=km hx;have HY:=km hy;have HL:=km hl;clear hx hy hl;go_enter Tryz.func24,Tryz.ntmps24;go_wp2_with fail;go_loopw [5] (fun iv wr=>∃ i:Nat,i≤xs.length∧iv=I6 i∧Hid (∀ j,j < i→getO xs[j]?=getO ys[j]?)∧Hid (Bel w wr)) (fun iv _=>xs.length-(intOf iv).toNat)
  case atStart=>exact ⟨0,qs _,rfl,km (fun j h=>absurd h (yl _)),km (qj _ _)⟩
  case round=>
   obtain ⟨i,hi,rfl,HA,HB⟩:=hrel;by_cases hlt:i < xs.length
   ·have li:(i:Int) < (xs.length:Int):=by omega
    have hlt2:i < ys.length:=by rw [← HL.out];exact hlt
    have li2:(i:Int) < (ys.length:Int):=by omega
    rcases HX.out with h0 | ⟨g,off,rfl,hO⟩
    ·subst h0;cases hlt
    rcases HY.out with h0 | ⟨g2,off2,rfl,hO2⟩
    ·subst h0;cases hlt2
    have HC:Hid (∀ W,Bel w W→OpsAt W g off xs∧OpsAt W g2 off2 ys):=fun W h=>⟨hO.below h,hO2.below h⟩;clear hO hO2;have HR:Hid (∀ W,Bel w W→Bel w W.drew):=fun W h=>h.drew;go_wp2_with fail;refine wp_region_held_drew (S:=fun W=>Bel w W) (by kernel_rfl) (HR.out _ HB.out) (fun hHeld=>?_);generalize World.drew _=wD at hHeld ⊢;clear HB HR;refine ks 0 17 ?_;refine ks 1 18 ?_;refine ks 2 19 ?_;refine x9 3 20 (fun W h=>(HC.out W h).1.cells hlt) ?_;refine ks 4 21 ?_;refine ks 5 22 ?_;refine ks 6 23 ?_;refine x9 7 24 (fun W h=>(HC.out W h).2.cells hlt2) ?_;by_cases he:xs[i]=ys[i]
    ·refine tk 8 25 rfl (Or.inl ⟨by rfl,fun w _=>by rw [he];go_simp;rfl⟩) hHeld ?_;simp only [Act.put,Qc,Qb,Qa];refine xy ?_;have HE:=km he;clear he;go_wp2_with fail;go_roundw
     case rel=>exact ⟨i+1,hlt,by go_num,km (fun j h=>by
      rcases zr j i with q | q
      ·exact HA.out j q
      ·obtain rfl:j=i:=by omega
       rw [qk hlt,qk hlt2];exact HE.out),km hHeld⟩
     case measure=>simp [intOf];omega
    ·refine tk 8 25 (v:=.bool true) rfl (Or.inl ⟨by rfl,fun w _=>by go_simp;intro h1 h2 h3 h4 h5 h6;exact he (opn_ext h1 h2 h3 h4 h5 h6)⟩) hHeld ?_;simp only [Act.put,Qc,Qb,Qa];refine xy ?_;have HE:Hid (xs≠ys):=fun e=>he (by subst e;rfl);clear he;go_wp2_with fail;go_ret;exact ⟨⟨false,rfl,fun h=>(by cases h),fun h=>absurd h HE.out⟩,hHeld⟩
   ·obtain rfl:i=xs.length:=by omega
    go_wp2_with fail;go_ret;exact ⟨⟨true,rfl,fun _=>lists_at HL.out HA.out,fun _=>rfl⟩,HB.out⟩
 ·have hl':((xs.length:Int) != (ys.length:Int))=true:=by simp;omega
  have HL:=km hl;clear hx hy hl;go_enter Tryz.func24,Tryz.ntmps24;go_wp2_with fail;go_ret;exact ⟨⟨false,rfl,fun h=>(by cases h),fun h=>absurd (by rw [h]) HL.out⟩,qj _ _⟩
theorem knows_any (os:List Opn) (o:Opn) (a:Option Addr) (c:Nat) (w:World) (hO:OpsIs w a os) (ho:o∈os) (hn:os.length≤1000000):Cs 36 #[.slice a os.length c,.agg #[I6 o.kd,U3 o.cl,U3 o.ck,U3 o.st,U6 o.rf,I3 o.ch]] w fun e w'=>e=.returned (.bool true)∧Bel w w':=by
 obtain ⟨p,hp,hpo⟩:=qw.1 ho;have HP:=km (qd hp hpo);rcases hO with h0 | ⟨g,off,rfl,hO⟩
 ·subst h0;cases hp
 have HO:=km hO;have HB0:Hid (Bel w (w.alloc (.cells #[I6 o.kd,U3 o.cl,U3 o.ck,U3 o.st,U6 o.rf,I3 o.ch] 43))∧RowIs (w.alloc (.cells #[I6 o.kd,U3 o.cl,U3 o.ck,U3 o.st,U6 o.rf,I3 o.ch] 43)) w.heap.size 43 6 (opV o)):=km ⟨kq _ _,RowIs.last rfl rfl⟩;clear hO ho;go_enter Tryz.func36,Tryz.ntmps36;go_wp2_with fail;go_loopw [5] (fun iv wr=>∃ i:Nat,i≤p∧iv=I6 i∧Hid (Bel w wr∧RowIs wr w.heap.size 43 6 (opV o))) (fun iv _=>os.length-(intOf iv).toNat)
 case atStart=>exact ⟨0,qs _,rfl,HB0⟩
 case round=>
  obtain ⟨i,hi,rfl,HB⟩:=hrel;clear HB0;have hlt:i < os.length:=Nat.lt_of_le_of_lt hi HP.out.1;have li:(i:Int) < (os.length:Int):=by omega
  have HC:Hid (∀ W,Bel w W→OpsAt W g off os):=fun W h=>HO.out.below h;go_wp2_with fail;refine wp_region_held_drew (S:=fun W=>Bel w W∧RowIs W w.heap.size 43 6 (opV o)) (by kernel_rfl) ⟨HB.out.1.drew,HB.out.2.drew⟩ (fun hHeld=>?_);generalize World.drew _=wD at hHeld ⊢;clear HB;refine ks 0 12 ?_;refine ks 1 13 ?_;refine ks 2 14 ?_;refine x9 3 15 (fun W h=>(HC.out W h.1).cells hlt) ?_;refine x9 4 16 (fun W h=>vq h.2) ?_;by_cases he:os[i]=o
  ·refine tk 5 17 (v:=.bool true) rfl (Or.inl ⟨by rfl,fun w _=>by rw [he];go_simp⟩) hHeld ?_;simp only [Act.put,Qc,Qb,Qa];refine xy ?_;clear he;go_wp2_with fail;go_ret;exact ⟨rfl,hHeld.1⟩
  ·refine tk 5 17 (v:=.bool false) rfl (Or.inl ⟨by rfl,fun w _=>by go_simp;intro h1 h2 h3 h4 h5 h6;exact he (opn_ext h1 h2 h3 h4 h5 h6)⟩) hHeld ?_;simp only [Act.put,Qc,Qb,Qa];refine xy ?_;have HE:=km he;clear he;go_wp2_with fail;go_roundw
   case rel=>exact ⟨i+1,Nat.lt_of_le_of_ne hi (fun e=>HE.out (by subst e;exact HP.out.2)),by go_num,km hHeld⟩
   case measure=>simp [intOf];omega
theorem sent_append {w:World} {v1:Value} {L1 L2:List (List Int)} (h1:SentIs w B v1 L1) (h2:SentIs w B v2 L2) (hl1:L1.length≤1000000) (hl2:L2.length≤1000000) (hB:B≤w.heap.size) (ty:TypeId):∃ v6 w6,(Builtin.append_ #[66,66] ty #[v1,v2]).run Tryz.prog w=.ok v6 w6∧SentIs w6 B v6 (L1++L2)∧Below B w w6∧But (fun x=>v1.ownBlock=some x) w w6:=by
 obtain ⟨ib,hib,hz0,hz1,hz2⟩:=info_parts infoBs;obtain ⟨xs,x1,x2,x3⟩:=h1;obtain ⟨ys,y1,y2,y3⟩:=h2;have keep:∀ {w6:World},w.grownBy w6 v1.ownBlock→∀ {y:Value} {k:List Int},OwnB w B y k→OwnB w6 B y k:=fun {w6} hg {y k} hy=>kp hy fun g e=>hg.block g (qf hy g e).2 fun q=>bs_apart x2 hy q.symm e
 have fin:∀ {w6:World} {v6:Value},w.grownBy w6 v1.ownBlock→w6.ownsRow B 59 1 v6 (L1.length+L2.length) (xs++ys)→SentIs w6 B v6 (L1++L2)∧Below B w w6∧But (fun x=>v1.ownBlock=some x) w w6:=fun {w6 v6} hg ho=>by
  refine ⟨⟨xs++ys,by simp [x1,y1],by rw [qe];exact ho,fun i hi hi'=>?_⟩,⟨hg.os,hg.tape,hg.output,hg.size,fun x hx=>hg.block x (ql hx hB) fun e=>by have:=(qf x2 x e.symm).1;omega⟩,⟨hg.size,hg.os,hg.tape,hg.output,fun i hi hx=>hg.block i hi fun e=>hx e.symm⟩⟩;rw [qe] at hi;rcases zr i L1.length with q | q
  ·rw [jz (by omega),jz q];exact keep hg (x3 i q (by omega))
  ·rw [yu (by omega),yu (by omega)];simp only [x1];exact keep hg (y3 (i-L1.length) (by omega) (by omega))
 rcases y2.2 with ⟨rfl,e0⟩ | ⟨g,cap,cur,rfl,-⟩
 ·have hr:=run_append_owned_none (P:=Tryz.prog) (w:=w) B 66 ty 59 ib 1 Tryz.underlying66 hib v1 _ xs x2;have ye:ys=[]:=zy.1 (by rw [y1,e0]);have:=@fin w v1 ⟨rfl,rfl,rfl,qb _,fun _ _ _=>rfl⟩ (by rw [ye,jd,e0,y8];exact x2);exact ⟨v1,w,hr,this⟩
 ·obtain ⟨v9,w9,hr9,ho9,hg9,-,-⟩:=run_append_own_at (P:=Tryz.prog) w B 66 ty 59 ib (.slice none 0 0) 1 24 Tryz.underlying66 hib hz0 hz1 hz2 rfl (by decide) v1 _ xs x2 (Ad g 0) L2.length cap ys (by rw [y1,Nat.mul_one]) (World.ownsRow.cells y2 rfl) (fun u hu=>by
   obtain ⟨j,hj,rfl⟩:=qw.1 hu;rcases (y3 j (by omega) hj).2 with ⟨q,-⟩ | ⟨_,_,_,q,-⟩
   ·rw [q];rfl
   ·rw [q];rfl) (by unfold maxLen;omega) (by omega) hB
  exact ⟨v9,w9,hr9,fin hg9 ho9⟩
theorem One.textS {w:World} {t:Tr} (h:One w b cl vW t ws):Cs 26 #[(pt b 0)] w fun e w'=>e=.returned (.string ⟨(strOf (visR t.list)).toArray⟩)∧Bel w w':=by
 obtain ⟨ss,top,vK,B,ok,hH⟩:=h;refine (rText_any b cl ss top vW vK t w B.row B.tree ⟨ok.set.tellable,sortU_any _ (gone_short ok.set),fun x hx=>ch_i32 (ok.set.ok x hx)⟩).mono ?_;rintro e w' ⟨⟨xs,hp,hs,rfl⟩,h2,h3⟩;refine ⟨?_,same_below h3 B.row h2⟩;rw [TextL.vis ok.set.by' ⟨xs,hp,hs,rfl⟩]
theorem One.wait {w:World} {t:Tr} (h:One w b cl vW t ws):Cs 25 #[(pt b 0)] w fun e w'=>e=.returned (I6 ws.length)∧Bel w w':=by
 obtain ⟨ss,top,vK,B,ok,hH⟩:=h;obtain ⟨a,c,rfl⟩:=kt B.own;exact (rWaiting_any b cl ss top vK a ws.length c w B.row).mono fun e w' ⟨h1,h2,h3⟩=>⟨h1,same_below h3 B.row h2⟩
theorem TalkIs.one {w:World} {top:Value} {t:Tr} (h:TalkIs w b 0 cl ss top vW vK t ws l):One w b cl vW t ws:=⟨ss,top,vK,h.book,h.ok,h.heap⟩
theorem own_ne {w:World} {C f r:Nat} {x:Value} {ys:List Value} (h:w.ownsRow B e s v n xs) (k:w.ownsRow C f r x m ys) (hef:e≠f) {g:Nat} (hg:v.ownBlock=some g):x.ownBlock≠some g:=by
 intro hx;rcases h.2 with ⟨q,-⟩ | ⟨g1,_,_,q,-,q2,-⟩
 ·rw [q] at hg;cases hg
 ·rcases k.2 with ⟨p,-⟩ | ⟨g2,_,_,p,-,p2,-⟩
  ·rw [p] at hx;cases hx
  ·rw [q] at hg;rw [p] at hx;cases hg;cases hx;rw [q2] at p2;simp only [jx,Obj.cells.injEq] at p2;exact hef p2.2.1
theorem own_zero {w:World} (h:w.ownsRow B e s v n xs):w.ownsRow 0 e s v n xs:=⟨h.1,h.2.via id fun ⟨g,c,u,h1,_,h2⟩=>⟨g,c,u,h1,qs _,h2⟩⟩
theorem SentIs.on {w:World} {st:Int} {top:Value} {t:Tr} {L:List (List Int)} (h:SentIs w B v L) (hT:TalkIs w b st cl ss top vW vK t ws l) (hb:But (fun x=>x=b∨vW.ownBlock=some x∨vK.ownBlock=some x) w w'):SentIs w' B v L:=by
 have key:∀ {e s n:Nat} {v:Value} {xs:List Value},w.ownsRow B e s v n xs→e≠118→43≠e→186≠e→w'.ownsRow B e s v n xs:=fun {e s n v xs} h h1 h2 h3=>kp h fun g hg=>hb.block g (qf h g hg).2 (fun q=>by
  rcases q with q | q | q
  ·exact xf (own_zero h) hT.book.row h1 hg q
  ·exact own_ne hT.book.own h h2 q hg
  ·exact own_ne hT.own h h3 q hg)
 obtain ⟨vs,h1,h2,h3⟩:=h;exact ⟨vs,h1,key h2 (by decide) (by decide) (by decide),fun j hj hj'=>key (h3 j hj hj') (by decide) (by decide) (by decide)⟩
theorem OwnO.on {w:World} {X:Nat→Prop} (h:OwnO w B v os) (hN:∀ g,v.ownBlock=some g→g < N) (hb:But X w w') (hX:∀ x,X x→x < B∨N≤x):OwnO w' B v os:=
 kp h fun g hg=>hb.block g (qf h g hg).2 (fun q=>by have:=(qf h g hg).1;have:=hN g hg;have:=hX g q;omega)
theorem TalkIs.aside {w:World} {st:Int} {top:Value} {t:Tr} (h:TalkIs w b st cl ss top vW vK t ws l) (hv:w.ownsRow B 59 1 v n xs) (hB:15≤B) (hb:But (fun x=>v.ownBlock=some x) w w'):TalkIs w' b st cl ss top vW vK t ws l:=by
 have K:=h.book;have hgs:15≤w.heap.size:=by have:=K.row.lt;have:=K.far;omega
 exact ⟨⟨K.row.but hb (fun q=>xf (own_zero hv) K.row (by decide) q rfl),isTr_gen2 hb (fun g e=>Qy hv (by decide) e) K.tree,kp K.own fun g hg=>hb.block g (qf K.own g hg).2 (fun q=>own_ne K.own hv (by decide) hg q),K.typ,K.wtyp,K.wlen,K.size,K.env.but hb (fun x q=>qi hB (qf hv x q).1) hgs,K.far,K.wfar⟩,h.ok,h.heap,kp h.own fun g hg=>hb.block g (qf h.own g hg).2 (fun q=>own_ne h.own hv (by decide) hg q),h.apart⟩
def tk2 (ss:Int) (v:Value):Nat→Value
 | 0=>U3 ss
 | _=>v
theorem infoTalk:(Tryz.prog.info? 116).map (·.size)=some 2:=by kernel_rfl
theorem newT_any (ss:Int) (w:World):Cs 62 #[U3 ss] w fun e w'=>(∃ v,e=.returned (.agg #[U3 ss,v])∧OwnS w' w.heap.size v [wholeS])∧Bel w w':=by
 obtain ⟨io,hio,hz0,hz1,hz2⟩:=info_parts infoSp;have R0:RowIs (w.alloc (.cells #[U3 0,.slice none 0 0] 116)) w.heap.size 116 2 (tk2 0 (.slice none 0 0)):=RowIs.last rfl rfl;have H0:=km R0;clear R0;go_enter Tryz.func62,Tryz.ntmps62;go_wp2_with (go_at_call 111;refine (whole_any _).mono ?_;rintro e w2 ⟨rfl,hb2⟩;have HB2:=km ((kq w (.cells #[.int .u32 0,.slice none 0 0] 116)).trans (hb2.mono (by simp)));have R2:=(H0.out.below hb2 H0.out.lt).alloc (.cells #[U6 0,U6 1099511627776] 186);have hs2:w.heap.size+1≤w2.heap.size:=(by have:=hb2.size;simpa using this);have y0:(w2.alloc (.cells #[U6 0,U6 1099511627776] 186)).cell? (Ad w.heap.size 0)=some (U3 0):=R2.cell (j:=0) (by omega);have y1:(w2.alloc (.cells #[U6 0,U6 1099511627776] 186)).cell? (Ad w.heap.size 1)=some (.slice none 0 0):=R2.cell (j:=1) (by omega);have z0:=R2.free 0;have z1:=R2.free 1;have HR2:=km R2;clear hb2 R2)
 have R3:RowIs (((w2.alloc (.cells #[U6 0,U6 1099511627776] 186)).setCell (Ad w.heap.size 0) (U3 ss)).setCell (Ad w.heap.size 1) (.slice (some (Ad w2.heap.size 0)) 1 1)) w.heap.size 116 2 (tk2 ss (.slice (some (Ad w2.heap.size 0)) 1 1)):=((HR2.out.set 0 (U3 ss)).set 1 (.slice (some (Ad w2.heap.size 0)) 1 1)).congr fun j hj=>by
  match j,hj with
  | 0,_=>rfl
  | 1,_=>rfl
 have hs:=HB2.out.size;have h1:Bel w (w2.alloc (.cells #[U6 0,U6 1099511627776] 186)):=HB2.out.trans ((kq w2 _).mono hs);have hne:w2.heap.size≠w.heap.size:=by omega
 have ho:=ownS_one w2 w.heap.size wholeS hs;have hb3:But (fun x=>x=w.heap.size) (w2.alloc (.cells #[U6 0,U6 1099511627776] 186)) (((w2.alloc (.cells #[U6 0,U6 1099511627776] 186)).setCell (Ad w.heap.size 0) (U3 ss)).setCell (Ad w.heap.size 1) (.slice (some (Ad w2.heap.size 0)) 1 1)):=(But.set _ 0 _).trans (But.set _ 1 _);have hO:=kp ho fun g hg=>hb3.block g (qf ho g hg).2 (fun q=>by have:g=w2.heap.size:=(by cases hg;rfl);have q:g=w.heap.size:=q;omega);have h3:Bel w (((w2.alloc (.cells #[U6 0,U6 1099511627776] 186)).setCell (Ad w.heap.size 0) (U3 ss)).setCell (Ad w.heap.size 1) (.slice (some (Ad w2.heap.size 0)) 1 1)):=⟨hb3.os.trans h1.os,hb3.tape.trans h1.tape,hb3.output.trans h1.output,qi h1.size hb3.size,fun x hx=>(hb3.block x (by have:=h1.size;omega) fun e=>by have:x=w.heap.size:=e;omega).trans (h1.block x hx)⟩;exact bodyPost_ret (v:=.agg (rowOf 2 (tk2 ss (.slice (some (Ad w2.heap.size 0)) 1 1)))) (results_cell_row Tryz.results62 _ _ w.heap.size 116 _ (0,0) _ rfl R3 Tryz.underlying116 rfl (by rw [rowOf_size];exact infoTalk)) rfl ⟨⟨_,rfl,hO⟩,h3⟩
theorem rep_sess {w:World} {st:Int} {top:Value} (h:RowIs w b 118 7 (rep7 st cl top vW ss vK)) (s:Int):RowIs (w.setCell (Ad b 5) (U3 s)) b 118 7 (rep7 st cl top vW s vK):=(h.set 5 (U3 s)).congr fun j _=>by
 match j with
 | 0=>rfl
 | 1=>rfl
 | 2=>rfl
 | 3=>rfl
 | 4=>rfl
 | 5=>rfl
 | _+6=>rfl
theorem BookIs.began {w:World} {st:Int} {top:Value} {t:Tr} (h:BookIs w b st cl ss top vW vK t ws) (ok:BookOk t.list ws) (hH:t.H) (hO:OwnS w B v l) (hB:15≤B) (hap:∀ g,v.ownBlock=some g→vW.ownBlock≠some g) (s:Int):TalkIs ((w.setCell (Ad b 5) (U3 s)).setCell (Ad b 6) v) b st cl s top vW v t ws l:=by
 have hb:But (fun x=>x=b) w ((w.setCell (Ad b 5) (U3 s)).setCell (Ad b 6) v):=(But.set b 5 _).trans (But.set b 6 _);have hO':OwnS ((w.setCell (Ad b 5) (U3 s)).setCell (Ad b 6) v) B v l:=kp hO fun g hg=>hb.block g (qf hO g hg).2 (fun q=>hO.notRow h.row (by rw [hg,show g=b from q]));exact ⟨⟨rep_work (rep_sess h.row s) v,Qf h.row (by decide) hb h.tree,kp h.own fun g hg=>hb.block g (qf h.own g hg).2 (fun q=>h.apart hg q),h.typ,h.wtyp,h.wlen,h.size,h.env.but hb (fun x e=>e▸h.far) (by have:=h.row.lt;have:=h.far;omega),h.far,h.wfar⟩,ok,hH,⟨hO'.1,hO'.2.via id fun ⟨g,c,u,h1,h2,h3⟩=>⟨g,c,u,h1,qi hB h2,h3⟩⟩,hap⟩
theorem rStart_any (b:Nat) (cl ss s:Int) (top vW vK:Value) (t:Tr) (ws:List Opn) (w:World) (hB:BookIs w b 0 cl ss top vW vK t ws) (ok:BookOk t.list ws) (hH:t.H) (hs:1≤s∧s≤1073741823):Cs 32 #[(pt b 0),U3 s] w fun e w'=>e=.returned (I6 0)∧∃ vK',TalkIs w' b 0 cl s top vW vK' t ws [wholeS]∧(∀ g,vK'.ownBlock=some g→w.heap.size≤g)∧But (fun x=>x=b) w w':=by
 have hbl:=hB.row.lt;have c0:w.cell? (Ad b 0)=some (I3 0):=hB.row.cell (j:=0) (by omega);have f0:=hB.row.free 0;have HI:Hid (∀ W,Cs 61 #[U3 s] W fun e w'=>e=.returned (.bool true)∧w'=W):=by have:=isSession_any s;rw [decide_eq_true hs.1,decide_eq_true hs.2] at this;exact this
 have HB:=km hB.locked;have HO:=km (qd ok hH);clear hB ok hH hs;go_enter_defers Tryz.func32,Tryz.ntmps32
 go_wp2_with (first
  | (go_at_call 49;refine (lock_free Qk (Ad b 0) _ c0 f0).mono ?_;rintro e w' ⟨rfl,rfl⟩)
  | (go_at_call 62;refine (newT_any s _).mono ?_;rintro e w2 ⟨⟨v2,rfl,ho2⟩,hb2⟩;have HB2:=km (HB.out.below hb2);have HO2:=km (qd ho2 hb2);obtain ⟨a2,c2,rfl⟩:=ho2.form;have y5:w2.cell? (Ad b 5)=some (U3 ss):=HB2.out.row.cell (j:=5) (by omega);have y6:w2.cell? (Ad b 6)=some vK:=HB2.out.row.cell (j:=6) (by omega);have z5:=HB2.out.row.free 5;have z6:=HB2.out.row.free 6;clear ho2 hb2)
  | (go_at_call 61;refine (HI.out _).mono ?_;rintro e wx ⟨rfl,hwx⟩;obtain rfl:=hwx.symm))
 have hT:=HB2.out.began HO.out.1 HO.out.2 HO2.out.1 (by have:=HB.out.far;rw [size_set];omega) (fun g hg q=>by have h1:=(qf HO2.out.1 g hg).1;have h2:=(qf HB.out.own g q).2;rw [size_set] at h1 h2;omega) s;refine leaves_cons (f:=50) (args:=#[(pt b 0)]) (by simp) (by simp [go_sem]) ?_;refine (unlock_deferred Qk (Ad b 0) .returning _ (hT.book.row.cell (j:=0) (by omega)) (hT.book.row.free 0)).mono ?_;rintro e u' w'' ⟨rfl,rfl,rfl⟩;exact ⟨_,results_tmp rfl _ _ _,rfl,_,hT.free,fun g hg=>by have:=(qf HO2.out.1 g hg).1;rw [size_set] at this;exact this,(((((But.set b 0 _).trans (But.below HO2.out.2)).trans (But.set b 5 _)).trans (But.set b 6 _)).trans (But.set b 0 _))⟩
structure Hrd (w W:World) (b:Nat) (top vW vK:Value) (t:Tr) (ws:List Opn) (l:List Sp) (m:Nat):Prop where
 talk:TalkIs W b 0 1 3 top vW vK t ws l
 rkd:Rkd t.list
 sps:SpsOk l
 len:l.length≤m
 below:Bel w W
 far:w.heap.size≤b
 farW:∀ g,vW.ownBlock=some g→w.heap.size≤g
 farK:∀ g,vK.ownBlock=some g→w.heap.size≤g
theorem Hrd.keep {w W:World} {top:Value} {t:Tr} (h:Hrd w W b top vW vK t ws l m) (hb:Bel W W'):Hrd w W' b top vW vK t ws l m:=
 ⟨h.talk.below hb,h.rkd,h.sps,h.len,h.below.trans (hb.mono h.below.size),h.far,h.farW,h.farK⟩
theorem Hrd.old {w W:World} {top:Value} {t:Tr} (h:Hrd w W b top vW vK t ws l m) (x:Nat) (hx:x=b∨vW.ownBlock=some x∨vK.ownBlock=some x):w.heap.size≤x∧x < W.heap.size:=by
 rcases hx with rfl | e | e
 ·exact ⟨h.far,h.talk.book.row.lt⟩
 ·exact ⟨h.farW x e,(qf h.talk.book.own x e).2⟩
 ·exact ⟨h.farK x e,(qf h.talk.own x e).2⟩
theorem Hrd.step {w W:World} {top:Value} {t:Tr} (h:Hrd w W b top vW vK t ws l m) (hA:AnsW W W' b 0 1 3 vW vK top' v' vK' t' ws' l') (hr:Rkd t'.list) (hs:SpsOk l') (hl:l'.length≤m'):Hrd w W' b top' v' vK' t' ws' l' m':=by
 have sz:=h.below.size;refine ⟨hA.talk,hr,hs,hl,⟨hA.but.os.trans h.below.os,hA.but.tape.trans h.below.tape,hA.but.output.trans h.below.output,qi sz hA.but.size,fun x hx=>(hA.but.block x (by omega) fun e=>?_).trans (h.below.block x hx)⟩,h.far,fun g hg=>?_,fun g hg=>?_⟩
 ·have:=(h.old x e).1;omega
 ·rcases hA.at1 with e | ⟨g',e,k⟩
  ·exact h.farW g (e▸hg)
  ·rw [e] at hg;cases hg;omega
 ·rcases hA.at2 with e | ⟨g',e,k⟩
  ·exact h.farK g (e▸hg)
  ·rw [e] at hg;cases hg;omega
def FrsIs (w:World) (a:Option Addr) (fs:List (List Int)):Prop:=fs=[]∨∃ g off,a=some (Ad g off)∧∀ i (h:i < fs.length),∃ ai ci,w.cell? ⟨g,off+i,none⟩=some (.slice ai fs[i].length ci)∧InA w ai ci fs[i]
theorem FrsIs.at {w W:World} {a:Option Addr} {fs:List (List Int)} (h:FrsIs w a fs) (hb:Bel w W) (hi:i < fs.length):∃ g off ai ci,a=some (Ad g off)∧W.cell? ⟨g,off+i,none⟩=some (.slice ai fs[i].length ci)∧InA W ai ci fs[i]∧(fs[i]=[]∨∀ g off,ai=some (Ad g off)→g < w.heap.size):=by
 rcases h with h | ⟨g,off,e,h⟩
 ·subst h;cases hi
 ·obtain ⟨ai,ci,h1,h2⟩:=h i hi;refine ⟨g,off,ai,ci,e,(hb.cell (block_lt_of_cell h1)).trans h1,h2.below hb,?_⟩;rcases h2 with h2 | ⟨g2,off2,e2,h2⟩
  ·exact Or.inl h2
  ·exact Or.inr fun g3 off3 e3=>by rw [e2] at e3;cases e3;exact h2.lt
structure Fst (w W:World) (b:Nat) (v:Value) (t:Tr):Prop where
 rkd:Rkd t.list
 below:Bel w W
 far:w.heap.size≤b
 farW:∀ g,v.ownBlock=some g→w.heap.size≤g
theorem hist_first {w w0 w1 W:World} {rs0 rs:List Rp} {vl va:Value} {gl:Nat} (hb0:Bel w w0) (hN:NewS w0 w1 rs0 vl) (hH:HistS rs0 w1 W G rs va G) (hl:rs0.length=3) (hcl:∀ j (h:j < rs0.length),w1.cell? (Ad gl j)=some (.pointer (some ⟨rs0[j].b,0,none⟩))) (hfl:¬ InR rs0 gl) :
  ∃ b v t ws,W.cell? (Ad gl 0)=some ((pt b 0))∧One W b 1 v t ws∧Fst w W b v t:=by
 have s0:=hb0.size;have s1:=hN.below.size;have hlen:=hH.len;have h0:0 < rs.length:=by omega
 have h00:0 < rs0.length:=by omega
 have e1:=(hH.moved.same 0 h00 h0).1;have e2:=(hH.rep 0 h0).2;have hone:=hH.many.all _ (qn h0);have c0:=hcl 0 h00;refine ⟨rs[0].b,rs[0].v,rs[0].t,rs[0].ws,?_,?_,?_,(Rest.start hb0 hN hH).below,?_,fun g hg=>?_⟩
 ·rw [e1];exact (qz (a:=(Ad gl 0)) (hH.moved.but.block gl (block_lt_of_cell c0) hfl)).trans c0
 ·have e2:rs[0].cl=1:=e2;rw [e2] at hone;exact hone
 ·exact hH.hist.rkd.sub fun x hx=>Qm.2 ((hH.rep 0 h0).1.sub x hx)
 ·rw [e1];have:=hN.far _ (qn h00);omega
 ·rcases hH.moved.own g ⟨rs[0],qn h0,Or.inr hg⟩ with ⟨r,hr,k⟩ | k
  ·obtain ⟨j,hj,rfl⟩:=qw.1 hr;rcases k with k | k
   ·have:=hN.far _ (qn hj);omega
   ·rw [(hN.cl j hj).2.2.2] at k;cases k
  ·omega
theorem OwnB.inA {w:World} {l:List Int} (h:OwnB w B v l) (hb:Byt l) (hl:l.length≤140737488355328):∃ a c,v=.slice a l.length c∧InA w a c l:=by
 rcases h.2 with ⟨e,h0⟩ | ⟨g,cap,cur,e,h3,h4,h5,h6,h7,h8⟩
 ·exact ⟨none,0,by rw [e,h0],Or.inl (zy.1 h0)⟩
 ·refine ⟨_,_,e,Or.inr ⟨g,0,rfl,⟨fun i hi=>?_,hb,(qf h g (by rw [e];rfl)).2,h5,by unfold maxLen at h6;omega,hl⟩⟩⟩;have:=World.ownsRow.cells h (g:=g) (by rw [e];rfl) i (U8 l[i]) (by unfold u8s;simp [hi]);rwa [addN'] at this
structure Rs (w:World) (A N:Nat) (p:World) (b:Nat) (top v vK:Value) (t:Tr) (ws:List Opn) (l:List Sp) (m:Nat) (vw:Value) (os:List Opn):Prop where
 hrd:Hrd w p b top v vK t ws l m
 was:OwnO p A vw os
 wlt:∀ g,vw.ownBlock=some g→g < N
 sub:∀ x∈os,x∈t.list
 fresh:∀ x,(x=b∨v.ownBlock=some x∨vK.ownBlock=some x)→x < A∨N≤x
 size:N≤p.heap.size
 big:w.heap.size≤N
structure R2 (w:World) (A N:Nat) (p:World) (b:Nat) (top v vK:Value) (t:Tr) (ws:List Opn) (l:List Sp) (m:Nat) (vw:Value) (os:List Opn) (u:Value) (L:List (List Int)):Prop where
 rs:Rs w A N p b top v vK t ws l m vw os
 sent:SentIs p N u L
 good:Goods L
 len:L.length≤200
structure R3 (w:World) (A N:Nat) (p:World) (b:Nat) (top v vK:Value) (t:Tr) (ws:List Opn) (l:List Sp) (m:Nat) (vw:Value) (os:List Opn) (u:Value) (L:List (List Int)) (u3:Value) (L3:List (List Int)):Prop where
 r:R2 w A N p b top v vK t ws l m vw os u L
 sent:SentIs p N u3 L3
 good:Goods L3
 len:L3.length≤100∧L.length≤100
theorem Rs.keep {w:World} {top:Value} {t:Tr} (h:Rs w A N p b top v vK t ws l m vw os) (hb:Bel p p'):Rs w A N p' b top v vK t ws l m vw os:=
 ⟨h.hrd.keep hb,xk h.was hb,h.wlt,h.sub,h.fresh,qi h.size hb.size,h.big⟩
theorem R2.keep {w:World} {top:Value} {t:Tr} {L:List (List Int)} (h:R2 w A N p b top v vK t ws l m vw os u L) (hb:Bel p p'):R2 w A N p' b top v vK t ws l m vw os u L:=
 ⟨h.rs.keep hb,h.sent.keep hb,h.good,h.len⟩
theorem Rs.step {w:World} {top:Value} {t:Tr} (h:Rs w A N p b top v vK t ws l m vw os) (hA:AnsW p p' b 0 1 3 v vK top' v' vK' t' ws' l') (hr:Rkd t'.list) (hs:SpsOk l') (hl:l'.length≤m') (hsub:∀ x∈t.list,x∈t'.list):Rs w A N p' b top' v' vK' t' ws' l' m' vw os:=by
 have sz:=h.size;refine ⟨h.hrd.step hA hr hs hl,h.was.on h.wlt hA.but h.fresh,h.wlt,fun x hx=>hsub x (h.sub x hx),fun x hx=>?_,qi h.size hA.but.size,h.big⟩;rcases hx with e | e | e
 ·exact h.fresh x (Or.inl e)
 ·rcases hA.at1 with q | ⟨g,q,k⟩
  ·exact h.fresh x (Or.inr (Or.inl (q▸e)))
  ·rw [q] at e;cases e;exact Or.inr (by omega)
 ·rcases hA.at2 with q | ⟨g,q,k⟩
  ·exact h.fresh x (Or.inr (Or.inr (q▸e)))
  ·rw [q] at e;cases e;exact Or.inr (by omega)
theorem Hrd.heard {w W p1:World} {top:Value} {t:Tr} {a1 ai:Option Addr} {c1 ci:Nat} {f:List Int} (h:Hrd w W b top v vK t ws l (1+2*i)) (hi:i≤40) (hb:Bel W p1) (ho:OwnO p1 W.heap.size (.slice a1 t.list.length c1) t.list) (hA:InA W ai ci f∧(f=[]∨∀ g off,ai=some (Ad g off)→g < w.heap.size)) :
  Cs 40 #[(pt b 0),.slice ai f.length ci] p1 fun e p2=>∃ u2 L2 n2 top2 v2 vK2 t2 ws2 l2,e=.returned (.tuple #[u2,I6 n2])∧R2 w W.heap.size p1.heap.size p2 b top2 v2 vK2 t2 ws2 l2 (1+2*(i+1)) (.slice a1 t.list.length c1) t.list u2 L2∧L2.length≤100:=by
 have h1:=h.keep hb;have hl:=h1.len;refine (rHeard_any b 1 3 top v vK t ws l ai ci f p1 h1.talk (by omega) (hA.1.below hb) (hA.2.via id fun k g off e=>by have:=k g off e;have:=h.far;omega) (by decide)).mono ?_;rintro e p2 ⟨u2,L2,n2,top2,v2,vK2,t2,ws2,l2,rfl,hs2,hA2,hR2⟩;have hH:=hears_ok h1.talk hA2.talk hR2 hA.1.byt (by decide) h1.rkd h1.sps;have R0:Rs w W.heap.size p1.heap.size p1 b top v vK t ws l (1+2*i) (.slice a1 t.list.length c1) t.list:=⟨h1,ho,fun g hg=>(qf ho g hg).2,fun _ h=>h,fun x hx=>Or.inl (h.old x hx).2,qb _,qi h.below.size hb.size⟩;exact ⟨u2,L2,n2,top2,v2,vK2,t2,ws2,l2,rfl,⟨R0.step hA2 hH.rkd hH.sps (by have:=hH.len;omega) hH.sub,hs2,hH.good,by have:=hH.few;omega⟩,hH.few⟩
theorem R2.tick {w:World} {top:Value} {t:Tr} {L:List (List Int)} (h:R2 w A N p b top v vK t ws l m vw os u L) (hm:m≤1000) (hL:L.length≤100) :
  Cs 34 #[(pt b 0)] p fun e p3=>∃ u3 L3 vK3 l3,e=.returned u3∧R3 w A N p3 b top v vK3 t ws l3 m vw os u L u3 L3:=by
 have H:=h.rs.hrd;have hl:=H.len;refine (rTick_any b 1 3 top v vK t ws l p H.talk (by omega) H.sps (Or.inr (by decide))).mono ?_;rintro e p3 ⟨u3,rfl,hs,vK3,hA⟩;refine ⟨u3,_,vK3,_,rfl,⟨⟨h.rs.step hA H.rkd ((H.sps.drop 5).app (H.sps.take 5)) (by rw [qe,qt,qm];omega) (fun _ h=>h),h.sent.on H.talk hA.but,h.good,h.len⟩,hs.base h.rs.size,ask_goods (by decide) (H.sps.take 5),by rw [ze,qm];omega,hL⟩⟩
theorem R3.append {w:World} {top u3:Value} {t:Tr} {L L3:List (List Int)} (h:R3 w A N p b top v vK t ws l m vw os u L u3 L3) (hg:15≤w.heap.size) :
  ∃ v6 p4,(Builtin.append_ #[66,66] 66 #[u,u3]).run Tryz.prog p=.ok v6 p4∧R2 w A N p4 b top v vK t ws l m vw os v6 (L++L3):=by
 have H:=h.r.rs;have hl:=h.len;obtain ⟨v6,p4,hr,hs,hb,hbut⟩:=sent_append h.r.sent h.sent (by omega) (by omega) H.size 66;obtain ⟨xs,-,x2,-⟩:=h.r.sent;have hbig:=H.big;refine ⟨v6,p4,hr,⟨⟨⟨H.hrd.talk.aside x2 (by omega) hbut,H.hrd.rkd,H.hrd.sps,H.hrd.len,H.hrd.below.trans (hb.mono H.big),H.hrd.far,H.hrd.farW,H.hrd.farK⟩,H.was.on H.wlt hbut (fun x hx=>Or.inr (qf x2 x hx).1),H.wlt,H.sub,H.fresh,qi H.size hb.size,H.big⟩,hs,fun bs hm=>(zd.1 hm).elim (h.r.good bs) (h.good bs),by rw [qe];omega⟩⟩
theorem SentIs.at {w:World} {L:List (List Int)} (h:SentIs w B v L) (hG:Goods L) {k:Nat} (hk:k < L.length):∃ g cap ai ci,v=.slice (some (Ad g 0)) L.length cap∧w.cell? (Ad g k)=some (.slice ai L[k].length ci)∧InA w ai ci L[k]:=by
 obtain ⟨vs,h1,h2,h3⟩:=h;obtain ⟨f,hf⟩:=hG _ (qn hk);have hs:=hf.small;obtain ⟨ai,ci,e,hA⟩:=(h3 k hk (by omega)).inA hs.1 (by omega);rcases h2.2 with ⟨-,h0⟩ | ⟨g,cap,cur,e2,-⟩
 ·omega
 ·refine ⟨g,cap,ai,ci,e2,?_,hA⟩;have:=World.ownsRow.cells h2 (g:=g) (by rw [e2];rfl) k vs[k] (by simp);rw [addN',q9,e] at this;exact this
theorem One.start {w:World} {t:Tr} (h:One w b cl vW t ws):Cs 32 #[(pt b 0),U3 3] w fun e w'=>e=.returned (I6 0)∧∃ top vK,TalkIs w' b 0 cl 3 top vW vK t ws [wholeS]∧(∀ g,vK.ownBlock=some g→w.heap.size≤g)∧But (fun x=>x=b) w w':=by
 obtain ⟨ss,top,vK,B,ok,hH⟩:=h;exact (rStart_any b cl ss 3 top vW vK t ws w B ok hH (by decide)).mono fun e w' ⟨h1,vK',h2⟩=>⟨h1,top,vK',h2⟩
theorem Fst.start {w W:World} {top:Value} {t:Tr} (h:Fst w W b v t) (hT:TalkIs W' b 0 1 3 top v vK t ws [wholeS]) (hv:∀ g,vK.ownBlock=some g→W.heap.size≤g) (hb:But (fun x=>x=b) W W'):Hrd w W' b top v vK t ws [wholeS] 1:=by
 have sz:=h.below.size;exact ⟨hT,h.rkd,fun s hs=>by rw [zo.1 hs];exact wholeS_ok,qb _,⟨hb.os.trans h.below.os,hb.tape.trans h.below.tape,hb.output.trans h.below.output,qi sz hb.size,fun x hx=>(hb.block x (by omega) fun e=>by have:=h.far;have:x=b:=e;omega).trans (h.below.block x hx)⟩,h.far,h.farW,fun g hg=>qi sz (hv g hg)⟩
theorem Hrd.more {w W:World} {top:Value} {t:Tr} (h:Hrd w W b top v vK t ws l m) (hm:m≤m'):Hrd w W b top v vK t ws l m':=⟨h.talk,h.rkd,h.sps,qi h.len hm,h.below,h.far,h.farW,h.farK⟩
structure Cst (p W:World) (b:Nat) (v:Value) (t:Tr) (ws X:List Opn):Prop where
 one:One W b 99 v t ws
 clo:Clo X t.list ws
 below:Bel p W
 far:p.heap.size≤b
 farW:∀ g,v.ownBlock=some g→p.heap.size≤g
theorem Cst.keep {W:World} {t:Tr} (h:Cst p W b v t ws X) (hb:Bel W W'):Cst p W' b v t ws X:=⟨h.one.below hb,h.clo,h.below.trans (hb.mono h.below.size),h.far,h.farW⟩
theorem Cst.new {W:World} (X:List Opn) (hb:Bel p W) (hl:p.heap.size≤b) (hr:RowIs W b 118 7 (rep7 0 99 (.pointer none) (.slice none 0 0) 0 (.slice none 0 0))) (hE:Env p) (hg:15≤p.heap.size):Cst p W b (.slice none 0 0) .nil [] X:=
 ⟨One.new hr (hE.below hb) (qi hg hl),Clo.nil X,hb,hl,fun g e=>by cases e⟩
theorem Cst.add {W:World} {t:Tr} (h:Cst p W b v t ws X) (ho:o∈X) (hX:SetOk X):Cs 21 #[(pt b 0),.agg #[I6 o.kd,U3 o.cl,U3 o.ck,U3 o.st,U6 o.rf,I3 o.ch]] W fun e W'=>(∃ n:Int,e=.returned (I6 n))∧∃ v' t',Cst p W' b v' t' (addN t.list ws o).2.2 X∧t'.list=(addN t.list ws o).2.1:=by
 refine (h.one.addL o (opT_of (okW (hX.ok o ho)).1)).mono ?_;rintro e W' ⟨rfl,v',t',hA⟩;have sz:=h.below.size;refine ⟨⟨_,rfl⟩,v',t',⟨hA.one,by rw [hA.list];exact h.clo.add ho,⟨hA.but.os.trans h.below.os,hA.but.tape.trans h.below.tape,hA.but.output.trans h.below.output,qi sz hA.but.size,fun x hx=>(hA.but.block x (by omega) fun e=>?_).trans (h.below.block x hx)⟩,h.far,fun g hg=>?_⟩,hA.list⟩
 ·rcases e with e | e
  ·have:=h.far;omega
  ·have:=h.farW x e;omega
 ·rcases hA.own with e | ⟨g',e,k⟩
  ·exact h.farW g (e▸hg)
  ·rw [e] at hg;cases hg;omega
theorem addsN_next (hj:j < X.length):addsN os ws (X.take (j+1))=(addN (addsN os ws (X.take j)).1 (addsN os ws (X.take j)).2 X[j]).2:=by
 rw [zk hj,addsN_snoc]
structure Cadd (p W:World) (b:Nat) (X os ws:List Opn) (j:Nat):Prop where
 st:∃ v t ws',Cst p W b v t ws' X∧t.list=(addsN os ws (X.take j)).1∧ws'=(addsN os ws (X.take j)).2
theorem Cadd.add {W:World} (h:Cadd p W b X os ws j) (hj:j < X.length) (hX:SetOk X):Cs 21 #[(pt b 0),.agg #[I6 X[j].kd,U3 X[j].cl,U3 X[j].ck,U3 X[j].st,U6 X[j].rf,I3 X[j].ch]] W fun e W'=>(∃ n:Int,e=.returned (I6 n))∧Cadd p W' b X os ws (j+1):=by
 obtain ⟨v,t,ws',h1,h2,h3⟩:=h.st;refine (h1.add (qn hj) hX).mono ?_;rintro e W' ⟨hn,v',t',h4,h5⟩;subst h3;rw [h2] at h4 h5;exact ⟨hn,⟨v',t',_,h4,by rw [h5,addsN_next hj],by rw [addsN_next hj]⟩⟩
theorem Cadd.below {W:World} (h:Cadd p W b X os ws j):Bel p W:=by
 obtain ⟨v,t,ws',h1,-⟩:=h.st;exact h1.below
theorem Cadd.done {W:World} (h:Cadd p W b X os ws X.length):∃ v t ws',Cst p W b v t ws' X∧t.list=(addsN os ws X).1:=by
 obtain ⟨v,t,ws',h1,h2,-⟩:=h.st;rw [jw] at h2;exact ⟨v,t,ws',h1,h2⟩
theorem Cst.same {W W2:World} {b2:Nat} {t t2:Tr} {ws2:List Opn} (h:Cst p W b v t ws t2.list) (h2:One W2 b2 cl v2 t2 ws2) (hl:t.list.length=t2.list.length):t=t2:=by
 obtain ⟨_,_,_,-,-,q⟩:=h.one;obtain ⟨_,_,_,-,ok2,q2⟩:=h2;exact Tr.one q q2 (h.clo.full ok2.set.by' (Nat.le_of_eq hl.symm))
theorem heard_any (fs:List (List Int)) (es:List Ed) (af:Option Addr) (cf:Nat) (a:Option Addr) (c:Nat) (w:World) (hfs:FrsIs w af fs) (hes:EdsIs w a es) (heT:∀ e∈es,EdT e) (hen:es.length≤140737488355328) (hE:Env w) (hg:15≤w.heap.size):Cs 13 #[.slice af fs.length cf,.slice a es.length c] w fun e w'=>e=.returned (.bool true)∧Bel w w':=by
 have HK:=kr (known2_any w hE hg);have HX:=kr (qd hes (qd heT hen));have HE:=kr (qd hE hg);have HF:=kr hfs;clear hes heT hE hg hen hfs;go_enter Tryz.func13,Tryz.ntmps13;go_upto_block 0 with (first | (go_at_call 32;have hq:=H3;clear hq;refine (H3.out.2.1.start).mono ?_;rintro e w4 ⟨rfl,top,vK,hT,hv,hbut⟩;have H4:=kr (H3.out.2.2.start hT hv hbut);clear hT hv hbut) | (go_at_call 19;refine (history_any es a c rs0 gl cap w2 ((HX.out.1.below H1.out).below H2.out.2.1.below) HX.out.2.1 HX.out.2.2 (HX.out.1.far H1.out H2.out.2.1) H2.out.2.2.1 H2.out.2.2.2 (qi HE.out.2 (qi H1.out.size H2.out.2.1.below.size)) (hist_start H2.out.2.1 H2.out.1)).mono ?_;rintro e w3 ⟨G,rs,va,rfl,hH⟩;obtain ⟨ag,cg,rfl⟩:=kt hH.own;obtain ⟨b,v0,t0,ws0,hc0,hone,hrest⟩:=hist_first H1.out H2.out.2.1 hH H2.out.1 H2.out.2.2.1 H2.out.2.2.2;have H3:Hid (True∧One w3 b 1 v0 t0 ws0∧Fst w w3 b v0 t0):=kr ⟨trivial,hone,hrest⟩;clear hH hone hrest) | (go_at_call 18;refine (hands_any _ (HE.out.1.below H1.out) (qi HE.out.2 H1.out.size)).mono ?_;rintro e w2 ⟨rs0,vl,rfl,hlen,hN⟩;obtain ⟨gl,cap,rfl,hcl,hfl⟩:=hN.cells hlen;have H2:=kr (qd hlen (qd hN (qd hcl hfl)));clear hlen hN hcl hfl) | (go_at_call 17;refine HK.out.mono ?_;rintro e w1 ⟨rfl,hb1⟩;have H1:=kr hb1;clear hb1))
 go_cut [11] (fun _ wc=>Hid (∃ (top v vK:Value) (t:Tr) (ws:List Opn) (l:List Sp),Hrd w wc b top v vK t ws l 81))
 case first=>
  go_wp2_with fail;go_loopw [11] (fun iv wr=>∃ (i:Nat) (top v vK:Value) (t:Tr) (ws:List Opn) (l:List Sp),i≤40∧iv=I6 i∧Hid (Hrd w wr b top v vK t ws l (1+2*i))) (fun iv _=>40-(intOf iv).toNat)
  case atStart=>exact ⟨0,_,_,_,_,_,_,qs _,rfl,H4⟩
  case round=>
   obtain ⟨i,top,v,vK,t,ws,l,hi40,rfl,H0⟩:=hrel;clear H4 H3 H2 H1 HK HX;by_cases hlt:i < fs.length
   ·have li:(i:Int) < (fs.length:Int):=by omega
    by_cases h40:i < 40
    ·have l40:(i:Int) < 40:=by omega
     obtain ⟨gf,off,ai,ci,rfl,hcf,hAi,hfi⟩:=HF.out.at H0.out.below hlt;have HA:=kr (qd hAi hfi);clear hAi hfi;have HM:Hid (1+2*(i+1)≤1000):=kr (by omega);go_wp2_with (first | (at_builtin;obtain ⟨v6,p4,hr6,hR6⟩:=H3.out.append HE.out.2;refine Lib.wpList_append_run _ rfl _ _ _ _ rfl _ _ rfl rfl _ _ hr6 ?_;have H4:=kr hR6;clear hr6 hR6) | (go_at_call 34;have hq:=H2;clear hq;refine (H2.out.1.tick HM.out H2.out.2).mono ?_;rintro e p3 ⟨u3,L3,vK3,l3,rfl,hR3⟩;obtain ⟨a3,c3,rfl⟩:=hR3.sent.form;have H3:=kr hR3;clear hR3) | (go_at_call 40;have hq:=HO1;clear hq;refine (H0.out.heard hi40 HB1.out HO1.out HA.out).mono ?_;rintro e p2 ⟨u2,L2,n2,top2,v2,vK2,t2,ws2,l2,rfl,hR2⟩;obtain ⟨a2,c2,rfl⟩:=hR2.1.sent.form;have H2:=kr hR2;clear hR2) | (go_at_call 23;refine (H0.out.talk.one.ops).mono ?_;rintro e p1 ⟨⟨s1,rfl,ho1⟩,hb1⟩;obtain ⟨a1,c1,rfl⟩:=kt ho1;have HO1:=kr ho1;have HB1:=kr hb1;have hcf1:=(HB1.out.cell (block_lt_of_cell hcf)).trans hcf;clear ho1 hb1 hcf));obtain ⟨L,hL⟩:∃ L,L=L2++L3:=⟨_,rfl⟩;rw [← hL] at H4;clear hL;obtain ⟨a6,c6,rfl⟩:=H4.out.sent.form;obtain ⟨A,N,H5⟩:∃ A N,Hid (R2 w A N p4 b top2 v2 vK3 t2 ws2 l3 (1+2*(i+1)) (.slice a1 t.list.length c1) t.list (.slice a6 L.length c6) L):=⟨_,_,H4⟩;have hL200:L.length≤200:=H5.out.len;have hT120:t.list.length≤120:=H0.out.talk.ok.set.len;clear H4 H3 H2 HO1 HB1 H0 HA hcf1;go_loopw [16] (fun kv wk=>∃ k:Nat,k≤L.length∧kv=I6 k∧Hid (R2 w A N wk b top2 v2 vK3 t2 ws2 l3 (1+2*(i+1)) (.slice a1 t.list.length c1) t.list (.slice a6 L.length c6) L)) (fun kv _=>L.length-(intOf kv).toNat)
     case atStart=>exact ⟨0,qs _,rfl,H5⟩
     case round=>
      obtain ⟨k,hk0,rfl,H6⟩:=hrel;clear H5;by_cases hk:k < L.length
      ·have lk:(k:Int) < (L.length:Int):=by omega
       obtain ⟨g6,cap6,ak,ck,he6,hck,hAk⟩:=H6.out.sent.at H6.out.good hk;cases he6;have HAk:=kr hAk;clear hAk;obtain ⟨fk,hfk⟩:=H6.out.good _ (qn hk);have HGk:=kr hfk;clear hfk;go_wp2_with (go_at_call 31;refine (kunpA_any ak ck L[k] _ HAk.out H6.out.rs.hrd.talk.book.env (qi HE.out.2 (qi H6.out.rs.big H6.out.rs.size))).mono ?_;rintro e p5 ⟨hku,hb5⟩;obtain ⟨f5,s5,-,rfl,ho5⟩:=hku.resolve_right (fun q=>q.1 fk HGk.out);obtain ⟨a5,c5,rfl⟩:=kt ho5;rw [show f5.val (.slice a5 f5.ops.length c5)=.agg #[I6 f5.kd,U3 f5.ss,U6 f5.lo,U6 f5.hi,U8 f5.d0,U8 f5.d1,U8 f5.d2,.slice a5 f5.ops.length c5] from rfl];have H7:=kr (H6.out.keep hb5);clear ho5 hb5 hku);go_roundw
       case rel=>exact ⟨k+1,hk,by go_num,kr (H7.out.keep (kq _ _))⟩
       case measure=>simp [intOf];omega
      ·have lk:¬ (k:Int) < (L.length:Int):=by omega
       go_wp2_with (go_at_call 23;refine (H6.out.rs.hrd.talk.one.ops).mono ?_;rintro e p6 ⟨⟨s1,rfl,ho1⟩,hb1⟩;obtain ⟨a7,c7,rfl⟩:=kt ho1;obtain ⟨B7,HN⟩:∃ B,Hid (OwnO p6 B (.slice a7 t2.list.length c7) t2.list):=⟨_,kr ho1⟩;have H8:=kr (H6.out.rs.keep hb1);clear ho1 hb1);clear H6;go_loopw [20] (fun jv wj=>∃ j:Nat,j≤t.list.length∧jv=I6 j∧Hid (Rs w A N wj b top2 v2 vK3 t2 ws2 l3 (1+2*(i+1)) (.slice a1 t.list.length c1) t.list)∧Hid (OwnO wj B7 (.slice a7 t2.list.length c7) t2.list)) (fun jv _=>t.list.length-(intOf jv).toNat)
       case atStart=>exact ⟨0,qs _,rfl,H8,HN⟩
       case round=>
        obtain ⟨j,hj0,rfl,H9,HN9⟩:=hrel;clear H8 HN;by_cases hj:j < t.list.length
        ·have lj:(j:Int) < (t.list.length:Int):=by omega
         obtain ⟨ga,rfl⟩:=ownO_some H9.out.was (by omega);obtain ⟨k0,k1,k2,k3,k4,k5⟩:=ownO_cells H9.out.was hj;go_wp2_with (go_at_call 36;refine (knows_any t2.list t.list[j] a7 c7 _ (OwnO.is HN9.out) (H9.out.sub _ (qn hj)) (by have:=H9.out.hrd.talk.ok.set.len;omega)).mono ?_;rintro e p7 ⟨rfl,hb7⟩;have H10:=kr (qd (H9.out.keep hb7) (xk HN9.out hb7));clear hb7);go_roundw
         case rel=>exact ⟨j+1,hj,by go_num,kr H10.out.1,kr H10.out.2⟩
         case measure=>simp [intOf];omega
        ·have lj:¬ (j:Int) < (t.list.length:Int):=by omega
         go_wp2_with fail;go_roundw
         case rel=>exact ⟨i+1,_,_,_,_,_,_,h40,by go_num,kr H9.out.hrd⟩
         case measure=>simp [intOf];omega
    ·have l40:¬ (i:Int) < 40:=by omega
     go_wp2_with fail;go_meet;exact kr ⟨_,_,_,_,_,_,H0.out.more (by omega)⟩
   ·have li:¬ (i:Int) < (fs.length:Int):=by omega
    go_wp2_with fail;go_meet;exact kr ⟨_,_,_,_,_,_,H0.out.more (by omega)⟩
 case rest=>
  clear H4 H3 H2 H1 HK HX;have HC:Hid (∃ (top v vK:Value) (t:Tr) (ws:List Opn) (l:List Sp),Hrd w wc b top v vK t ws l 81):=hcut;clear hcut;obtain ⟨top,v,vK,t,ws,l,hr0⟩:=HC.out;have H0:=kr hr0;clear hr0 HC;have HX:=kr (qd H0.out.talk.ok.set H0.out.rkd);have hT120:t.list.length≤120:=HX.out.1.len;have x120:¬ (120:Int) < (t.list.length:Int):=by have:=HX.out.1.len;omega
  have w12:¬ (12:Int) < (ws.length:Int):=by have:=H0.out.talk.ok.len;omega
  go_wp2_with (first | (go_at_call 20;have hq:=HO1;clear hq;refine (new_any 99 _).mono ?_;rintro e p2 ⟨hN,hbn⟩;unfold NewP at hN;rw [if_pos (by decide)] at hN;obtain ⟨bc,rfl,hl4,hr4⟩:=hN;have HC0:=kr (Cst.new t.list hbn hl4 hr4 (HE.out.1.below (H0.out.below.trans (HB1.out.mono H0.out.below.size))) (qi HE.out.2 (qi H0.out.below.size HB1.out.size)));have HR:=kr ((H0.out.keep HB1.out));clear hbn hl4 hr4) | (go_at_call 25;refine ((HR.out.keep HC0.out.below).talk.one.wait).mono ?_;rintro e p3 ⟨rfl,hb3⟩;have HC1:=kr (HC0.out.keep hb3);clear hb3) | (go_at_call 23;refine (H0.out.talk.one.ops).mono ?_;rintro e p1 ⟨⟨s1,rfl,ho1⟩,hb1⟩;obtain ⟨a1,c1,rfl⟩:=kt ho1;have HO1:=kr ho1;have HB1:=kr hb1;clear ho1 hb1));go_loopw [25] (fun kv wr=>∃ k:Nat,kv=I6 k∧Hid (∃ (v:Value) (t':Tr) (ws':List Opn),Cst p1 wr bc v t' ws' t.list∧k≤t'.list.length)) (fun kv _=>130-(intOf kv).toNat)
  case atStart=>exact ⟨0,rfl,kr ⟨_,_,_,HC1.out,qs _⟩⟩
  case round=>
   obtain ⟨k,rfl,HK⟩:=hrel;clear HC1 HC0 H0;obtain ⟨vc,tc,sc,hc,hkl⟩:=HK.out;have hk130:k < 121:=by have:=hc.clo.le;have:=HX.out.1.len;omega
   have lk:(k:Int) < 130:=by omega
   have HT:=kr (qd (hc.clo.turn HX.out.1 HX.out.2) hkl);have HS:Hid (Cadd p1 wr bc t.list tc.list sc 0):=kr ⟨vc,tc,sc,hc,rfl,rfl⟩;clear hc HK hkl;go_wp2_with fail;go_loopw [26] (fun jv wj=>∃ j:Nat,j≤t.list.length∧jv=I6 j∧Hid (Cadd p1 wj bc t.list tc.list sc j)) (fun jv _=>t.list.length-(intOf jv).toNat)
   case atStart=>exact ⟨0,qs _,rfl,HS⟩
   case round=>
    obtain ⟨j,hj0,rfl,HJ⟩:=hrel;clear HS;by_cases hj:j < t.list.length
    ·have lj:(j:Int) < (t.list.length:Int):=by omega
     have HO9:=kr (xk HO1.out HJ.out.below);obtain ⟨ga,rfl⟩:=ownO_some HO9.out (by omega);obtain ⟨k0,k1,k2,k3,k4,k5⟩:=ownO_cells HO9.out hj;go_wp2_with (go_at_call 21;refine (HJ.out.add hj HX.out.1).mono ?_;rintro e p5 ⟨⟨n5,rfl⟩,hJ5⟩;have H5:=kr hJ5;clear hJ5);go_roundw
     case rel=>exact ⟨j+1,hj,by go_num,H5⟩
     case measure=>simp [intOf];omega
    ·have lj:¬ (j:Int) < (t.list.length:Int):=by omega
     obtain rfl:j=t.list.length:=by omega
     obtain ⟨v6,t6,s6,hC6,ht6⟩:=HJ.out.done;have HC6:=kr (qd hC6 ht6);clear hC6 ht6 HJ;by_cases he:t6.list.length=t.list.length
     ·have et:t6=t:=HC6.out.1.same HR.out.talk.one he;subst et;have le:((t6.list.length:Int)==(t6.list.length:Int))=true:=beq_self_eq_true _;have HCa:=kr HC6.out.1;clear HC6 he;go_wp2_with (first | (go_at_call 27;have hq:=HC11;clear hq;refine ((HR.out.keep HC11.out.below).talk.one.root 0 1099511627776).mono ?_;rintro e p13 ⟨rfl,hb1⟩;have HC12:=kr (HC11.out.keep hb1);have hes:=eqSame (strOfNums (t6.rng 0 1099511627776).txt) p13;clear hb1) | (go_at_call 27;have hq:=HC10;clear hq;refine (HC10.out.one.root 0 1099511627776).mono ?_;rintro e p12 ⟨rfl,hb1⟩;have HC11:=kr (HC10.out.keep hb1);clear hb1) | (go_at_call 26;have hq:=HC9;clear hq;refine ((HR.out.keep HC9.out.below).talk.one.textS).mono ?_;rintro e p11 ⟨rfl,hb1⟩;have HC10:=kr (HC9.out.keep hb1);clear hb1) | (go_at_call 26;have hq:=HC8;clear hq;refine (HC8.out.one.textS).mono ?_;rintro e p10 ⟨rfl,hb1⟩;have HC9:=kr (HC8.out.keep hb1);clear hb1) | (go_at_call 24;refine (kSame_any t6.list t6.list _ _ _ _ _ (OwnO.is (xk HO1.out HCc.out.below)) (OwnO.is HOc.out) (by have:=HX.out.1.len;omega)).mono ?_;rintro e p9 ⟨⟨r9,rfl,hr9⟩,hb1⟩;obtain rfl:r9=true:=hr9.2 rfl;have HC8:=kr (HCc.out.keep hb1);clear hb1 hr9) | (go_at_call 23;have hq:=HCb;clear hq;refine (HCb.out.one.ops).mono ?_;rintro e p8 ⟨⟨s1,rfl,ho1⟩,hb1⟩;obtain ⟨ac,cc,rfl⟩:=kt ho1;have HCc:=kr (HCb.out.keep hb1);have HOc:=kr ho1;clear ho1 hb1) | (go_at_call 23;refine (HCa.out.one.ops).mono ?_;rintro e p7 ⟨⟨s1,rfl,ho1⟩,hb1⟩;obtain ⟨ab,cb,rfl⟩:=kt ho1;have HCb:=kr (HCa.out.keep hb1);have HOb:=kr ho1;clear ho1 hb1));go_ret;exact ⟨rfl,HR.out.below.trans (HC12.out.below.mono HR.out.below.size)⟩
     ·have hne:¬ (t6.list.length:Int)=(t.list.length:Int):=by omega
      have HT6:Hid (k+1≤t6.list.length):=kr (by have q:=HT.out.1;rw [← HC6.out.2] at q;have:=HT.out.2;omega);have HCa:=kr HC6.out.1;clear HC6 HT;go_wp2_with (go_at_call 23;refine (HCa.out.one.ops).mono ?_;rintro e p7 ⟨⟨s1,rfl,ho1⟩,hb1⟩;obtain ⟨ab,cb,rfl⟩:=kt ho1;have HCb:=kr (HCa.out.keep hb1);have HOb:=kr ho1;clear ho1 hb1);go_roundw
      case rel=>exact ⟨k+1,by go_num,kr ⟨_,_,_,HCb.out,HT6.out⟩⟩
      case measure=>simp [intOf];omega
end Go.Proofs.YtgccjefbedpmpaaGreatDoor
