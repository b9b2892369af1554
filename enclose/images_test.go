package enclose_test

import (
	"math"
	"strings"
	"testing"

	"metewand/api"
	"metewand/enclose"
	"metewand/internal/byhand"
)

// TestPlaces: the functions with places take from 0 to api.EnclosePlaces.
func TestPlaces(t *testing.T) {
	for name, f := range allImages() {
		for _, places := range []int{math.MinInt, -1, 9, math.MaxInt} {
			row(t, []string{name, one(f.of(a, places))}, name, "ErrValue")
		}
		for places := range 9 {
			if _, e := f.of(a, places); e != api.OK {
				t.Error(name, places, e)
			}
		}
	}
}

// P6.5

func TestP6_05ByHand(t *testing.T) {
	for _, s := range kinds(51) {
		for range 100 {
			a, places := s.in(), s.Below(9)
			got, e := enclose.Round(a, places)
			due(t, outward(a.Lo, a.Hi, places), got, e)
		}
	}
	row(t, []string{one(enclose.Round(in("-2/3..-1/3"), 1)), one(enclose.Round(in("-1/1000..1/1000"), 2)), one(enclose.Round(in("-1/1000..1/1000"), 3)), one(enclose.Round(in("-7/2..-7/2"), 0)), one(enclose.Round(in("1/3..1/3"), 8)), one(enclose.Round(in("5/4..5/4"), 1))}, "-7/10..-3/10", "-1/100..1/100", "-1/1000..1/1000", "-4..-3", "33333333/100000000..16666667/50000000", "6/5..13/10")
}

// TestP6_05Limits has decimals of 400 and of 401 digits.
func TestP6_05Limits(t *testing.T) {
	half := "1" + tens[1:399] + "1/2" // of 400 digits, an odd number
	row(t, []string{one(enclose.Round(in(nines+".."+nines), 8)), one(enclose.Round(in(half+".."+half), 1)), one(enclose.Round(in("1.."+nines+"/7"), 8)), one(enclose.Round(in("-"+nines+"/"+tens+"..1/"+nines), 8))}, nines+".."+nines, half+".."+half, "ErrLarge", "-10..1/100000000")
	for places := range 9 {
		got, e := enclose.Round(in("-"+nines+"/7.."+nines+"/8"), places)
		due(t, outward(q("-"+nines+"/7"), q(nines+"/8"), places), got, e)
	}
}

// P6.6

// decimals returns the outward span of numbers that are not rational, of which more digits are given than places.
func decimals(lo, hi string, places int) api.Enclosure {
	cut := func(s string) string {
		point := strings.Index(s, ".")
		digits := strings.TrimLeft(byhand.Amount(s[:point]+s[point+1:point+1+places]), "0")
		if digits == "" {
			digits = "0"
		}
		if s[0] == '-' {
			return byhand.Minus(byhand.Add(digits, "1"))
		}
		return digits
	}
	return api.Enclosure{Lo: decimal(cut(lo), places), Hi: decimal(byhand.Add(cut(hi), "1"), places)}
}

// known are digits of values.
func known() map[string]map[string]string {
	return map[string]map[string]string{
		"root": {"1/1000": "0.031622776601", "1/2": "0.707106781186", "2": "1.414213562373", "10": "3.162277660168", "99": "9.949874371066"},
		"exp":  {"-4": "0.018315638888", "-7/2": "0.030197383422", "-1": "0.367879441171", "-1/3": "0.716531310573", "1/1000": "1.001000500166", "1/2": "1.648721270700", "1": "2.718281828459", "2": "7.389056098930", "22/7": "23.169972298262", "4": "54.598150033144"},
		"log":  {"1/100": "-4.605170185988", "1/7": "-1.945910149055", "1/2": "-0.693147180559", "999/1000": "-0.001000500333", "1001/1000": "0.000999500333", "3/2": "0.405465108108", "2": "0.693147180559", "3": "1.098612288668", "10": "2.302585092994", "99/2": "3.901972669574", "100": "4.605170185988"},
		"sin":  {"-4": "0.756802495307", "-3": "-0.141120008059", "-2": "-0.909297426825", "-11/7": "-0.999999800133", "-3/2": "-0.997494986604", "-1": "-0.841470984807", "-1/2": "-0.479425538604", "1/9": "0.110882628509", "1": "0.841470984807", "3/2": "0.997494986604", "11/7": "0.999999800133", "5/3": "0.995407957751", "2": "0.909297426825", "3": "0.141120008059", "22/7": "-0.001264488930", "7/2": "-0.350783227689", "4": "-0.756802495307"},
	}
}

func TestP6_06Digits(t *testing.T) {
	for name, digits := range known() {
		for x, s := range digits {
			for y, r := range digits {
				if name == "sin" && x != y || compare(q(x), q(y)) > 0 {
					continue
				}
				for places := range 9 {
					got, e := allImages()[name].of(in(x+".."+y), places)
					due(t, decimals(s, r, places), got, e)
				}
			}
		}
	}
}

// TestFloats compares with the machine's numbers, unless these are too near to a decimal. (The sine of an enclosure may go on to -1 and 1.)
func TestFloats(t *testing.T) {
	some := 0
	for name, f := range allImages() {
		s := &sample{61, 0}
		for range 800 {
			a, places := s.domain(f.lo, f.hi), s.Below(9)
			scale := math.Pow(10, float64(places))
			least, most := f.real(float(a.Lo))*scale, f.real(float(a.Hi))*scale
			if name == "sin" {
				least, most = min(least, most), max(least, most)
				turn := math.Pi / 2
				if float(a.Lo) < turn && turn < float(a.Hi) {
					most = scale
				}
				if float(a.Lo) < -turn && -turn < float(a.Hi) {
					least = -scale
				}
			}
			far := func(x float64) bool { return math.Abs(x-math.Round(x)) > 1e-5 || math.Abs(x) == scale }
			if !far(least) || !far(most) {
				continue
			}
			some++
			got := get(t)(f.of(a, places))
			if lo, hi := float(got.Lo)*scale, float(got.Hi)*scale; math.Abs(lo-math.Floor(least)) > 1e-5 || math.Abs(hi-math.Ceil(most)) > 1e-5 {
				t.Fatal(name, text(a), places, text(got))
			}
		}
	}
	if some < 3000 {
		t.Error(some)
	}
}

func TestP6_06Root(t *testing.T) {
	row(t, []string{one(enclose.Root(in("4..9"), 0)), one(enclose.Root(in("1/4..9/16"), 2)), one(enclose.Root(in("1/4..9/16"), 1)), one(enclose.Root(in("0..1/2"), 0)), one(enclose.Root(in("1/8..1/8"), 1)), one(enclose.Root(in("0..1/"+nines), 8)), one(enclose.Root(in("-1/"+nines+"..1"), 8)), one(enclose.Root(in("-4..-1"), 1)), one(enclose.Root(in("4..1"), 1))}, "2..3", "1/2..3/4", "1/2..4/5", "0..1", "3/10..2/5", "0..1/100000000", "ErrValue", "ErrValue", "ErrOrder")
	// Squares of long numbers, and what is next to them.
	s := sample{62, 0}
	for range 20 {
		n := byhand.Amount(s.Number(150 + s.Below(50)))
		root := decimal(n, s.Below(9))
		for places := range 9 {
			square := times(root, root)
			due(t, outward(root, root, places), get(t)(enclose.Root(around(square), places)), api.OK)
		}
		below, above := api.Rat{Num: byhand.Add(byhand.Mul(n, n), "-1"), Den: "1"}, api.Rat{Num: byhand.Add(byhand.Mul(n, n), "1"), Den: "1"}
		want := api.Enclosure{Lo: api.Rat{Num: byhand.Add(n, "-1"), Den: "1"}, Hi: api.Rat{Num: n, Den: "1"}}
		due(t, want, get(t)(enclose.Root(around(below), 0)), api.OK)
		want = api.Enclosure{Lo: want.Hi, Hi: api.Rat{Num: byhand.Add(n, "1"), Den: "1"}}
		due(t, want, get(t)(enclose.Root(around(above), 0)), api.OK)
	}
	// 2 with 398 zeros has a root with the digits of that of 2.
	row(t, []string{one(enclose.Root(in("0..2"+tens[1:399]), 0))}, "0..14142135623730950488016887242096980785696718753769480731766797379907324784621070388503875343276415727350138462309122970249248360558507372126441214970999358314132226659275055927557999505011527820605715")
}

func TestP6_06Domains(t *testing.T) {
	row(t, []string{one(enclose.Exp(in("-4..4"), 0)), one(enclose.Exp(in("-4..-4"), 1)), one(enclose.Exp(in("0..1"), 0)), one(enclose.Exp(in("-4001/1000..0"), 0)), one(enclose.Exp(in("0..4"+tens[1:]+"1/"+tens), 0)), one(enclose.Exp(in("-9..-5"), 0)), one(enclose.Exp(in("5..9"), 0)), one(enclose.Exp(in("1..0"), 0))}, "0..55", "0..1/10", "1..3", "ErrValue", "ErrLarge", "ErrValue", "ErrValue", "ErrOrder")
	row(t, []string{one(enclose.Log(in("1/100..100"), 0)), one(enclose.Log(in("1..3"), 0)), one(enclose.Log(in("1/2..1"), 2)), one(enclose.Log(in("1/101..1"), 0)), one(enclose.Log(in("1..101"), 0)), one(enclose.Log(in("-1..1"), 0)), one(enclose.Log(in("1..1"+tens[1:398]+"01/"+tens[:398]), 0)), one(enclose.Log(in("1.."+nines[:399]+"/"+tens[:398]), 0)), one(enclose.Log(in("1..0"), 0))}, "-5..5", "0..2", "-7/10..0", "ErrValue", "ErrValue", "ErrValue", "ErrValue", "0..5", "ErrOrder")
}

// Digits of numbers of which functions are decimals.
const (
	logOfFiveHalves = "9162907318741550651835272117680110714501012199082624677919678819807853657379630490242705510967609232579648220011448771660384849935665456426009458658286297656214520666688118104631858175784498515861468050782363818221506052130208591378340895756970753884226383423683509643962010296311830013037744961346242409431731964804671179216707791310943852792664280974279231094368198368306599807314927995824021087901231703825254800028226337616679646341682631443476717097128053459111692789851119590362040789991750818868013369263120361908973232733169739513449330703648212136877219616490086193231883288046906430991092782768808473522320618178224067325955124399527687385384676475970443336030296663462129086052854866687205892514215888575689491200201814844796966589612698168103114533710232210952536142995162888434830090219229120147238919914427"
	rootOfE         = "6487212707001281468486507878141635716537761007101480115750793116406610211942156086327765200563666430028666377563077970046711669752196091598409714524900597969294226590984039147199484646594892448968689053364184657208410666568598000889249812117122873752149721955119716090340911156197998698399606426550917545746263044830751947582587826254399319557126900765453228814761009577397884861814432652082034241701047183385915106301256614755338082520260614009728919590840501489150294406956331137767638009584808932951224722635565426541717575241083586972765926066153997676676027916153344711082882095269625790404935685459378957007658732842540903791050754272043732522203670248483545302322846472246269486156013996284571554935118237879959533938396305189301436634709739707453949925599991393256002388517759342648970032996606552334173170721502"
	sixthOfPi       = "5235987755982988730771072305465838140328615665625176368291574320513027343810348331046724708903528446636913477522137177745156407682584303719542265680214135195750473504503230868509266074371581591550636607381351626109889076880792747056311305275452003181909414278205767247684090544413688989345433748568789540978344343859313624802534868271382090152858940613154317266685550884248034110868973578253235852682388428783942932653255153643528969887686321841864246790770633271249278919809587874818713230305019915216389455604067761071810035658243992041228651170299768239504617565361960488627920641124697446115675220000946878575439268046309618904596316015289395297869114068168708255716910915975618417987132815431539236699926853548369934773390696933022716291285516600864512018916666663954963416585099552888026827197658374099092244847171"
	halfOfPi        = "5707963267948966192313216916397514420985846996875529104874722961539082031431044993140174126710585339910740432566411533235469223047752911158626797040642405587251420513509692605527798223114744774651909822144054878329667230642378241168933915826356009545728242834617301743052271633241066968036301245706368622935033031577940874407604604814146270458576821839462951800056652652744102332606920734759707558047165286351828797959765460930586909663058965525592740372311899813747836759428763624456139690915059745649168366812203283215430106974731976123685953510899304718513852696085881465883761923374092338347025660002840635726317804138928856713788948045868185893607342204506124767150732747926855253961398446294617710099780560645109804320172090799068148873856549802593536056749999991864890249755298658664080481592975122297276734541513"
)

// TestP6_06Near has numbers of 400 digits whose values are decimals but for less than 10^-790.
func TestP6_06Near(t *testing.T) {
	for _, x := range []struct{ name, whole, digits, value string }{{"exp", "0", logOfFiveHalves, "5/2"}, {"log", "1", rootOfE, "1/2"}, {"sin", "0", sixthOfPi, "1/2"}} {
		below, above := neighbours(x.whole, x.digits)
		for _, places := range []int{1, 5, 8} {
			of := func(a api.Enclosure) string { return one(allImages()[x.name].of(a, places)) }
			step := decimal("1", places)
			lo, mid, hi := minus(q(x.value), step), q(x.value), plus(q(x.value), step)
			row(t, []string{x.name, of(around(below)), of(around(above)), of(around(below, above))}, x.name, text(around(lo, mid)), text(around(mid, hi)), text(around(lo, hi)))
		}
	}
}

// TestP6_06Tiny has numbers that are next to the one at which the value is rational.
func TestP6_06Tiny(t *testing.T) {
	step := "1/100000000"
	most := nines[:399] + "8/" + nines
	row(t, []string{one(enclose.Exp(in("0..1/"+tens), 8)), one(enclose.Exp(in("-1/"+nines+"..0"), 8)), one(enclose.Exp(in("-1/"+nines+"..1/"+tens), 0)), one(enclose.Exp(in("0..0"), 8))}, "1..100000001/100000000", "99999999/100000000..1", "0..2", "1..1")
	row(t, []string{one(enclose.Log(in("1.."+nines+"/"+nines[:399]+"8"), 8)), one(enclose.Log(in(most+"..1"), 8)), one(enclose.Log(in("1..1"), 8)), one(enclose.Sin(in("-1/"+nines+"..0"), 8)), one(enclose.Sin(in("-1/"+nines+"..1/"+tens), 8)), one(enclose.Sin(in("1/"+nines+"..1/"+tens), 0))}, "0.."+step, "-"+step+"..0", "0..0", "-"+step+"..0", "-"+step+".."+step, "0..1")
}

// P6.7

func TestP6_07Turns(t *testing.T) {
	of := func(s string, places int) string { return one(enclose.Sin(in(s), places)) }
	row(t, []string{of("1..2", 4), of("1..3/2", 2), of("5/3..2", 2), of("-2..-1", 1), of("-3/2..-1", 1), of("-1..0", 2), of("0..2", 1), of("2..4", 0), of("2..4", 2), of("-4..-2", 2), of("-2..2", 8), of("-3..1", 3), of("0..4", 2), of("-4..0", 2)}, "4207/5000..1", "21/25..1", "9/10..1", "-1..-4/5", "-1..-4/5", "-17/20..0", "0..1", "-1..1", "-19/25..91/100", "-91/100..19/25", "-1..1", "-1..421/500", "-19/25..1", "-1..19/25")
	row(t, []string{of("-4..4", 0), of("-9/2..0", 0), of("0..4001/1000", 0), of("-9..-5", 0), of("1..0", 0)}, "-1..1", "ErrValue", "ErrValue", "ErrValue", "ErrOrder")
	// Next to the turning points, on both sides of them and around them.
	below, above := neighbours("1", halfOfPi)
	for _, x := range [][]api.Rat{{below}, {above}, {below, above}} {
		a := around(x...)
		row(t, []string{one(enclose.Sin(a, 8))}, "99999999/100000000..1")
		a = around(byhand.Negated(a.Lo), byhand.Negated(a.Hi))
		row(t, []string{one(enclose.Sin(a, 8))}, "-1..-99999999/100000000")
	}
	// Rounded up, the sine is 1 from about 1.57065 to 1.57094.
	row(t, []string{of("1..7853/5000", 8), of("1..15707/10000", 8), of("15709/10000..2", 8), of("1571/1000..2", 8)}, "42073549/50000000..99999999/100000000", "42073549/50000000..1", "45464871/50000000..1", "45464871/50000000..49999999/50000000")
}
