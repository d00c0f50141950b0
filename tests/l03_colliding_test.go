package tests

import (
	"math"
	"testing"

	"loop.example/g01224/impl"
)

// lossesModel is the sum of the events of each class, its own ones taken twice.
func lossesModel(events impl.Kernel) impl.Sizes {
	var losses impl.Sizes
	for i, row := range events {
		row[i] = times(2, row[i])
		losses[i] = total(row[:])
	}
	return losses
}

// eventsModel is EventsOf without its errors.
func eventsModel(c impl.Sizes, k impl.Kernel, time float32) impl.Kernel {
	events := kernelOf(func(i, j int) float32 {
		low, high := min(i, j), max(i, j)
		number := times(times(times(k[low][high], c[low]), c[high]), time)
		if i == j {
			return times(0.5, number)
		}
		return number
	})
	losses := lossesModel(events)
	return kernelOf(func(i, j int) float32 {
		share := float32(1)
		for _, class := range []int{i, j} {
			if losses[class] > c[class] {
				share = min(share, over(c[class], losses[class]))
			}
		}
		return times(events[i][j], share)
	})
}

// collideModel is Collide without its errors.
func collideModel(c impl.Sizes, k impl.Kernel, time float32) impl.Sizes {
	events := eventsModel(c, k, time)
	losses := lossesModel(events)
	var left impl.Sizes
	for class := range left {
		left[class] = minus(c[class], between(losses[class], 0, c[class]))
	}
	for i := 0; i < 20; i++ {
		for j := i; j < 20; j++ {
			if events[i][j] > 0 {
				left = putModel(left, plus(massModel(i), massModel(j)), events[i][j])
			}
		}
	}
	return left
}

// waterFrom is AtLeast of sizes whose water is finite.
func waterFrom(c impl.Sizes, class int64) float32 {
	for small := range class {
		c[small] = 0
	}
	return waterModel(c)
}

// wideCount and wideWater count without roundings that a narrow sum has.
func wideCount(c impl.Sizes) float64 {
	count := 0.0
	for _, number := range c {
		count += float64(number)
	}
	return count
}

func wideWater(c impl.Sizes) float64 {
	water := 0.0
	for class, number := range c {
		water += float64(number) * math.Exp2(float64(class))
	}
	return water
}

// collision has arguments of functions that let droplets collide.
type collision struct {
	c    impl.Sizes
	k    impl.Kernel
	time float32
}

// collision returns droplets which collide a bit, or as much as they can.
func (c *chance) collision(t *testing.T) collision {
	x := collision{c: c.sizes(), k: c.kernel(float32(math.Pow(10, -float64(c.next(12))))), time: c.share()}
	switch c.next(4) {
	case 0:
		x.c = c.cloud(t)
	case 1:
		for range 15 {
			x.c[c.next(20)] = 0
		}
	}
	return x
}

func wantEvents(t *testing.T, what string, x collision, want impl.Kernel, wantCode int64) {
	t.Helper()
	got, code := impl.EventsOf(x.c, x.k, x.time)
	wantKernel(t, what+": EventsOf", got, code, want, wantCode)
}

func wantLosses(t *testing.T, what string, x collision, want impl.Sizes, wantCode int64) {
	t.Helper()
	got, code := impl.LossesOf(x.c, x.k, x.time)
	wantSizes(t, what+": LossesOf", got, code, want, wantCode)
}

func wantCollided(t *testing.T, what string, x collision, want impl.Sizes, wantCode int64) {
	t.Helper()
	got, code := impl.Collide(x.c, x.k, x.time)
	wantSizes(t, what+": Collide", got, code, want, wantCode)
}

func wantSteps(t *testing.T, what string, x collision, steps int64, want impl.Sizes, wantCode int64) {
	t.Helper()
	got, code := impl.CollideSteps(x.c, x.k, x.time, steps)
	wantSizes(t, what+": CollideSteps", got, code, want, wantCode)
}

func wantRain(t *testing.T, what string, x collision, class int64, want float32, wantCode int64) {
	t.Helper()
	got, code := impl.RainMade(x.c, x.k, x.time, class)
	wantNumber(t, what+": RainMade", got, code, want, wantCode)
}

// The example of chapter 3, but for boxes.
func TestCollisionsExample(t *testing.T) {
	k, code := impl.FlatKernel(0.01)
	wantKernel(t, "FlatKernel", k, code, flatKernel(0.01), impl.OK)
	events, code := impl.EventsOf(impl.Sizes{0: 10, 1: 4}, k, 1)
	if code != impl.OK {
		t.Errorf("EventsOf: got %d", code)
	}
	wantNearly(t, "the class 0 with itself", events[0][0], 0.5)
	wantNearly(t, "both classes", events[0][1], 0.4)
	wantNumber(t, "both classes in the other order", events[1][0], code, events[0][1], impl.OK)
	broken, code := impl.BreakClass(impl.Sizes{3: 4}, 3, 0.5)
	wantSizes(t, "BreakClass", broken, code, impl.Sizes{3: 2, 2: 4}, impl.OK)
}

func TestCollisions(t *testing.T) {
	g := chance(70)
	few, enough, held := 0, 0, 0
	for range 1500 {
		x := g.collision(t)
		events := eventsModel(x.c, x.k, x.time)
		wantEvents(t, "some", x, events, impl.OK)
		losses := lossesModel(events)
		for class, loss := range losses {
			losses[class] = between(loss, 0, x.c[class])
			if loss > x.c[class] {
				held++
			}
			if loss > 0.99*x.c[class] && loss > 0 {
				few++
			} else if loss > 0 {
				enough++
			}
		}
		wantLosses(t, "some", x, losses, impl.OK)
		after := collideModel(x.c, x.k, x.time)
		wantCollided(t, "some", x, after, impl.OK)
		class := int64(g.next(20))
		rain := minus(waterFrom(after, class), waterFrom(x.c, class))
		wantRain(t, "some", x, class, between(rain, 0, greatest), impl.OK)
	}
	if few < 1000 || enough < 1000 || held < 100 {
		t.Errorf("the classes have too few droplets %d times, enough %d times, and losses are held %d times", few, enough, held)
	}
}

// collisionTexts have been found by another program.
var collisionTexts = []struct {
	what                      string
	count, mean, scale, time  float32
	kernel                    func(scale float32) (impl.Kernel, int64)
	row3, losses, once, often string
}{
	{"flat", 1e4, 16, 1e-5, 1, impl.FlatKernel,
		"402b2076 40ca8455 4185b15c 41ab2076 4285b15c 422b2076 4185b15c 40ca8455 402b2076 3fa2c8bc 3f2b2076 3ec2f266 3e6cda8d 3e17961d 3dca8455 3d8c2fe4 3d48008a 3d125fe7 3cdb0ad5 3ca713c0",
		"414ed660 41f4c727 42a19779 434ed660 43a19779 434ed660 42a19779 41f4c727 414ed660 40c4c0f6 404ed660 3feba0d3 3f8f23db 3f373824 3ef4c727 3ea970f2 3e71bd06 3e30eb80 3e04603c 3dc9f153",
		"42e8b12a 4389d40a 44367645 44eb37aa 453bde3d 44ff7ba7 4453d61f 43a031fb 4304c619 42794a74 42022162 4193bda9 41333457 40e532cc 40990b11 4053d72d 401719c2 3fdd2942 3fa579a8 3f7c733f",
		"3f7ef763 40197f27 40d40d9c 41995dab 422f742e 4297bd2b 42eafcfa 431e94fd 432dbac1 430df1a9 42a49e1f 4212745e 418085ea 41070aa9 40a52523 405bc407 4019eacc 3fdf6354 3fa683dc 3f8066d5"},
	{"sums", 1000, 64, 1e-7, 0.5, impl.SumKernel,
		"383744ff 38c1b494 39745bff 39c0c9d8 3b3ee7df 3c4ba1ff 3d0f2de8 3d2d167f 3d033f69 3cc3cd00 3ca42dcf 3c9b91d4 3ca33973 3cb9c367 3ce195fc 3cae0353 3c69e62d 3c226827 3be80eeb 3ba9f748",
		"3d045579 3d7d02d2 3e064c8b 3ea208d7 3f5e1fce 4018a3e6 4087a052 4057863d 3fe9e1fc 3f8a2f09 3f489c5c 3f2f2c5f 3f2febc8 3f43b87f 3f6af237 3f346476 3ef1e769 3ea7bd0a 3e6f7c0a 3e2f50bc",
		"404ae4cd 40c0fe21 414add0b 41f00741 429e65bf 434a9e9c 439e3238 434ad98f 429f7569 41f28fe7 414d2398 40c31964 404d0c4d 3fe996e5 3f8df576 3f368d0d 3ef38c88 3ea842d6 3e6fd541 3e2fc35a",
		"3ee2042f 3f560ed7 3fdf1597 4081c673 4125e052 41c8c1c5 4213d8f6 41d35ac7 416e4ce2 40fd7b74 4084aeeb 400d2287 3f9c562a 3f37182e 3ee480ce 3e9d0716 3e82901e 3e83c78a 3e8325b8 3eec31b9"},
	{"falls", 5e4, 256, 1e-9, 2, impl.FallKernel,
		"39d351c9 3a1e0d91 3a42e83a 00000000 3bd27297 3d3f1331 3e951995 3fcd8aee 40a5d2c8 40d6b431 40a7ef86 407d6ff3 4051b4bc 3fce3c4d 3f5d2736 3effcc44 3e9d7e0b 3e4c175b 3e09e040 3dc0d1be",
		"40a187aa 41088950 41765741 41f04e7a 4280925c 43183797 43c225b2 4462b3dc 44a0d278 44826252 4443171d 441e8c08 440bd3ff 438f1020 431b9364 42b4006e 425c32ed 420d524d 41bcfbb9 4182d83d",
		"4248e0c4 42a4e35c 4310538a 4388ead2 440fa76c 44aa0241 45616369 4611d5cc 4667c257 4616a0ca 457352df 44c0baa6 44279f09 43a72e42 43289246 42bb3e18 42606537 420e9933 41bdd2e0 41839366",
		"252a797e 255a65aa 258ed485 25c127a1 2609a0ad 2653b491 26b12e8a 271071ed 27107508 26590156 255a45db 24643f33 23841fe2 22ce56b5 228cd657 22f0437c 249bafc4 28dc5b80 31ad93ed 42c5da04"},
	{"flat, with too few droplets", 3e5, 1, 0.1, 1, impl.FlatKernel,
		"45cf17bb 45848a13 44cf17bb 439cd9f0 43848a13 42fc27da 42848a13 4216fcfe 41b7720a 416acf6a 411cd9f0 40d9270b 409ae750 4062bcb2 4029a680 40016721 3fc8c50a 3f9e1786 3f7c4e43 3f4bbefa",
		"480d83bd 47b52385 470d83bd 46565d87 45b52385 452c4ed2 44b52385 444e5a36 43fab604 43a0747f 43565d87 4314638b 42d3b413 429af03a 4267db89 4230da24 4209319d 41d80f94 41ac6912 418b3a45",
		"3d400000 476035cf 4758a2e5 46aba3e6 45f648f3 454c01e0 44c58143 44576b12 44000612 43a21971 43576879 4314b8c7 42d3e93f 429aff95 4267e2cc 4230db02 4209315a 41d80fa3 41ac6a2d 418b45dd",
		"00000000 00000000 00000000 00000000 00000000 00000000 00000000 00000000 00000000 00000000 00000002 00000000 00000000 00000000 00000000 00000004 00000000 00000004 00000000 4244e7f5"},
	{"sums of great masses", 100, 3e5, 1e-6, 3, impl.SumKernel,
		"2dbcd31f 2e037627 2e485724 2e2c2b11 2f29484b 2fbc86ae 3067cef1 31196a97 31d700e8 329e5689 33750445 3448188f 352df0bd 3622c3ea 3725efa3 38394d3e 395bed4f 3a6a3261 3b08f1e1 3ae93f48",
		"3b20ab10 3b4958c2 3b7fb42c 3ba4d01b 3bd81505 3c106854 3c455833 3c8a5dda 3cc80263 3d15e474 3d6ac762 3dc22e38 3e2c1b4c 3ea6dbbf 3f360113 3fe6e540 40ac67ec 41859eba 4201fe0e 41bcebfe",
		"3b46f806 3b79579c 3b9e5358 3bcc16d7 3c05c766 3c32c8b2 3c744154 3cab29c1 3cf724c5 3d38cecc 3d9018db 3dec4584 3e4dc65c 3ec0ad76 3f443ada 3fd9df3e 407d8ddd 410338eb 4150be02 4220c679",
		"00000000 00000000 00000000 00000000 00000000 00000000 00000000 00000000 00000000 00000000 00000000 00000000 00000000 00000000 00000000 00000000 00000000 00000000 00000000 42459aab"},
}

func TestCollisionsOfAnotherProgram(t *testing.T) {
	for _, x := range collisionTexts {
		c, _ := impl.Spectrum(x.count, x.mean)
		k, _ := x.kernel(x.scale)
		events, code := impl.EventsOf(c, k, x.time)
		wantText(t, x.what+": a row of EventsOf", impl.SizesText(impl.Sizes(events[3])), x.row3)
		wantInteger(t, x.what+": EventsOf", 0, code, 0, impl.OK)
		losses, code := impl.LossesOf(c, k, x.time)
		wantSizes(t, x.what+": LossesOf", losses, code, sizesOf(t, x.losses), impl.OK)
		once, code := impl.Collide(c, k, x.time)
		wantSizes(t, x.what+": Collide", once, code, sizesOf(t, x.once), impl.OK)
		often, code := impl.CollideSteps(c, k, x.time, 200)
		wantSizes(t, x.what+": CollideSteps", often, code, sizesOf(t, x.often), impl.OK)
	}
}

// The numbers of these are such that nothing is rounded but what is told.
func TestEventsWithEnoughDropletsOrTooFew(t *testing.T) {
	itself := with(impl.Kernel{}, 0, 0, 0.125)
	x := collision{impl.Sizes{8}, itself, 0.5}
	wantEvents(t, "enough", x, with(impl.Kernel{}, 0, 0, 2), impl.OK)
	wantLosses(t, "enough", x, impl.Sizes{4}, impl.OK)
	wantCollided(t, "enough", x, impl.Sizes{4, 2}, impl.OK)
	x.time = 1
	wantEvents(t, "just enough", x, with(impl.Kernel{}, 0, 0, 4), impl.OK)
	wantLosses(t, "just enough", x, impl.Sizes{8}, impl.OK)
	wantCollided(t, "just enough", x, impl.Sizes{0, 4}, impl.OK)
	for _, time := range []float32{2, 1024, 1e30} {
		x.time = time
		wantLosses(t, "too few", x, impl.Sizes{8}, impl.OK)
		wantCollided(t, "too few", x, impl.Sizes{0, 4}, impl.OK)
	}
	// The class 0 is enough for half of the events, and the class 19 for a quarter.
	k := with(with(with(impl.Kernel{}, 0, 0, 0.25), 0, 19, 0.5), 19, 19, 3)
	x = collision{impl.Sizes{0: 4, 19: 2}, k, 1}
	wantEvents(t, "two shares", x, with(with(with(impl.Kernel{}, 0, 0, 1), 0, 19, 0.5), 19, 19, 0.75), impl.OK)
	wantLosses(t, "two shares", x, impl.Sizes{0: 2.5, 19: 2}, impl.OK)
	wantCollided(t, "two shares", x, impl.Sizes{0: 1.5, 1: 1, 19: plus(times(0.5, over(524289, 524288)), 1.5)}, impl.OK)
	// The shares are taken from the losses before any events have become fewer.
	k = with(with(with(impl.Kernel{}, 3, 4, 1), 4, 5, 3), 3, 3, 0)
	x = collision{impl.Sizes{3: 1, 4: 1, 5: 8}, k, 1}
	wantEvents(t, "a share of losses that become fewer", x, with(with(impl.Kernel{}, 3, 4, over(1, 25)), 4, 5, times(24, over(1, 25))), impl.OK)
}

func TestLossesAreHeldAtWhatTheClassHas(t *testing.T) {
	x := collision{impl.Sizes{3, 4, 8}, flatKernel(1), 1}
	events := eventsModel(x.c, x.k, x.time)
	wantEvents(t, "held", x, events, impl.OK)
	losses := lossesModel(events)
	wantNumber(t, "the sum of the events", losses[0], impl.OK, math.Nextafter32(3, 4), impl.OK)
	wantLosses(t, "held", x, impl.Sizes{3, losses[1], losses[2]}, impl.OK)
	after := collideModel(x.c, x.k, x.time)
	wantNumber(t, "what is left", after[0], impl.OK, 0, impl.OK)
	wantCollided(t, "held", x, after, impl.OK)
	x = collision{impl.Sizes{4, 2, 1}, flatKernel(0.25), 1}
	losses = lossesModel(eventsModel(x.c, x.k, x.time))
	wantNumber(t, "the sum of the events", losses[0], impl.OK, math.Nextafter32(4, 5), impl.OK)
	wantNumber(t, "the sum of the events", losses[2], impl.OK, math.Nextafter32(1, 2), impl.OK)
	wantLosses(t, "held", x, impl.Sizes{4, 2, 1}, impl.OK)
}

// The pairs 0, 2 and 1, 1 both make droplets of the class 2: many and then a half one, which is lost behind them.
func TestPairsAreTakenInOrder(t *testing.T) {
	k := with(with(with(impl.Kernel{}, 0, 1, 0x1p-27), 0, 2, 0x1p-26), 1, 1, 0.25)
	x := collision{impl.Sizes{0x1p26, 2, 0x1p24}, k, 1}
	wantEvents(t, "pairs in order", x, with(with(with(impl.Kernel{}, 0, 1, 1), 0, 2, 0x1p24), 1, 1, 0.5), impl.OK)
	wantLosses(t, "pairs in order", x, impl.Sizes{0x1p24, 2, 0x1p24}, impl.OK)
	wantCollided(t, "pairs in order", x, impl.Sizes{0x1p26 - 0x1p24, 0.5, 12582912, 4194304}, impl.OK)
	// First the class loses, and then it gets.
	k = with(with(impl.Kernel{}, 0, 0, 0.5), 1, 2, 0x1p-25)
	x = collision{impl.Sizes{2, 0x1p24, 2}, k, 1}
	wantCollided(t, "losses first", x, impl.Sizes{0, 0x1p24, 1.5, 0.5}, impl.OK)
}

func TestCollisionsBeyondTheClass19(t *testing.T) {
	for _, x := range []struct {
		what string
		i, j int
		want impl.Sizes
	}{
		{"twice the greatest class", 19, 19, impl.Sizes{19: 4}},
		{"the two greatest classes", 18, 19, impl.Sizes{18: 2, 19: 5}},
		{"the least and the greatest class", 0, 19, impl.Sizes{0: 2, 19: 2 + 2*(1+0x1p-19)}},
		{"twice the class 18", 18, 18, impl.Sizes{19: 2}},
		{"the least class", 0, 0, impl.Sizes{1: 2}},
		{"the two least classes", 0, 1, impl.Sizes{0: 2, 1: 3, 2: 1}},
	} {
		c := impl.Sizes{}
		c[x.i], c[x.j] = 4, 4
		k := with(impl.Kernel{}, x.i, x.j, 0.125)
		if x.i == x.j {
			k = with(k, x.i, x.j, 0.25)
		}
		wantCollided(t, x.what, collision{c, k, 1}, x.want, impl.OK)
	}
}

func TestNoCollisions(t *testing.T) {
	g := chance(71)
	for range 50 {
		x := g.collision(t)
		for _, y := range []collision{{x.c, x.k, 0}, {x.c, impl.Kernel{}, x.time}} {
			wantEvents(t, "none", y, impl.Kernel{}, impl.OK)
			wantLosses(t, "none", y, impl.Sizes{}, impl.OK)
			wantCollided(t, "none", y, x.c, impl.OK)
			wantSteps(t, "none", y, 200, x.c, impl.OK)
			wantRain(t, "none", y, 0, 0, impl.OK)
			wantRain(t, "none", y, 19, 0, impl.OK)
		}
		none := collision{impl.Sizes{}, x.k, x.time}
		wantEvents(t, "no droplets", none, impl.Kernel{}, impl.OK)
		wantCollided(t, "no droplets", none, impl.Sizes{}, impl.OK)
		wantSteps(t, "no steps", x, 0, x.c, impl.OK)
	}
}

func TestCollideSteps(t *testing.T) {
	g := chance(72)
	for range 3 {
		x := g.collision(t)
		c, all := x.c, must(t)(impl.CollideSteps(x.c, x.k, x.time, 200))
		for steps := range int64(201) {
			wantSteps(t, "steps at once", x, steps, c, impl.OK)
			wantSteps(t, "the rest of the steps", collision{c, x.k, x.time}, 200-steps, all, impl.OK)
			c = collideModel(c, x.k, x.time)
		}
	}
}

// must returns sizes without an error.
func must(t *testing.T) func(c impl.Sizes, code int64) impl.Sizes {
	return func(c impl.Sizes, code int64) impl.Sizes {
		t.Helper()
		if code != impl.OK {
			t.Fatalf("got the code %d", code)
		}
		return c
	}
}

func TestCollisionsKeepTheWater(t *testing.T) {
	g := chance(73)
	fewer := 0
	for range 1500 {
		x := g.collision(t)
		after := must(t)(impl.Collide(x.c, x.k, x.time))
		losses := must(t)(impl.LossesOf(x.c, x.k, x.time))
		for class, loss := range losses {
			if !(loss >= 0 && loss <= x.c[class]) {
				t.Errorf("the class %d has %v, and loses %v", class, x.c[class], loss)
			}
		}
		water, left := wideWater(x.c), wideWater(after)
		if math.Abs(water-left) > 1e-5*water {
			t.Errorf("Collide %v: the water %v and then %v", x, water, left)
		}
		count, behind := wideCount(x.c), wideCount(after)
		if behind > count*(1+1e-6) {
			t.Errorf("Collide %v: %v droplets and then %v", x, count, behind)
		}
		if behind < count*0.999 {
			fewer++
		}
	}
	if fewer < 700 {
		t.Errorf("droplets have become fewer just %d times", fewer)
	}
}

func TestRainMade(t *testing.T) {
	g := chance(74)
	rain, less := 0, 0
	for range 500 {
		x := g.collision(t)
		after := collideModel(x.c, x.k, x.time)
		for class := range int64(20) {
			more := minus(waterFrom(after, class), waterFrom(x.c, class))
			wantRain(t, "some", x, class, between(more, 0, greatest), impl.OK)
			if more > 0 {
				rain++
			} else if more < 0 {
				less++
			}
		}
	}
	if rain < 1000 || less < 100 {
		t.Errorf("the water is more %d times, and less %d times", rain, less)
	}
	x := collision{impl.Sizes{18: 4, 19: 1}, with(impl.Kernel{}, 18, 18, 0.25), 1}
	wantRain(t, "the class 19", x, 19, 1048576, impl.OK)
	wantRain(t, "the class 18", x, 18, 0, impl.OK)
	wantRain(t, "the class 0", x, 0, 0, impl.OK)
}

func TestCollisionErrors(t *testing.T) {
	check := func(x collision, want int64) {
		t.Helper()
		wantEvents(t, "errors", x, impl.Kernel{}, want)
		wantLosses(t, "errors", x, impl.Sizes{}, want)
		wantCollided(t, "errors", x, impl.Sizes{}, want)
		for _, steps := range []int64{-1, 0, 1, 200, 201, math.MinInt64, math.MaxInt64} {
			wantSteps(t, "errors", x, steps, impl.Sizes{}, want)
		}
		for _, class := range []int64{0, 19, -1, 20, math.MinInt64, math.MaxInt64} {
			wantRain(t, "errors", x, class, 0, want)
		}
	}
	full := fullSizes(greatest)
	for _, number := range notAmounts {
		for _, time := range []float32{0, 1, number} {
			check(collision{impl.Sizes{0: number}, flatKernel(1), time}, impl.ErrInvalid)
			check(collision{impl.Sizes{19: number}, flatKernel(1), time}, impl.ErrInvalid)
		}
		check(collision{impl.Sizes{1}, flatKernel(1), number}, impl.ErrRange)
		check(collision{impl.Sizes{}, impl.Kernel{}, number}, impl.ErrRange)
		check(collision{full, flatKernel(greatest), number}, impl.ErrRange)
	}
	for _, bad := range notKernels() {
		for _, time := range []float32{1, minus0} {
			check(collision{impl.Sizes{}, bad, time}, impl.ErrInvalid)
			check(collision{full, bad, time}, impl.ErrInvalid)
		}
	}
	for _, x := range []collision{{impl.Sizes{1}, flatKernel(1), 1}, {full, flatKernel(greatest), 1}} {
		for _, steps := range []int64{-1, 201, math.MinInt64, math.MaxInt64} {
			wantSteps(t, "range before state", x, steps, impl.Sizes{}, impl.ErrRange)
		}
		for _, class := range notClasses {
			wantRain(t, "range before state", x, class, 0, impl.ErrRange)
		}
	}
}

func TestCollisionsThatAreNotFinite(t *testing.T) {
	for _, x := range []struct {
		what string
		collision
	}{
		{"infinite events", collision{impl.Sizes{0: 1e20}, flatKernel(1), 1}},
		{"infinite events of two classes", collision{impl.Sizes{3: 1e20, 19: 1e20}, with(impl.Kernel{}, 3, 19, 1), 1}},
		{"infinite behind the time", collision{impl.Sizes{0: 1e10}, flatKernel(1e10), 1e10}},
		{"infinite without a time", collision{impl.Sizes{0: 1e20}, flatKernel(1), 0}},
		{"infinite, and none of the other class", collision{impl.Sizes{0: 1e20}, with(impl.Kernel{}, 0, 19, 1e20), 1}},
		{"infinite everywhere", collision{fullSizes(greatest), flatKernel(greatest), greatest}},
	} {
		wantEvents(t, x.what, x.collision, impl.Kernel{}, impl.ErrState)
		wantLosses(t, x.what, x.collision, impl.Sizes{}, impl.ErrState)
		wantCollided(t, x.what, x.collision, impl.Sizes{}, impl.ErrState)
		wantSteps(t, x.what, x.collision, 1, impl.Sizes{}, impl.ErrState)
		wantSteps(t, x.what, x.collision, 200, impl.Sizes{}, impl.ErrState)
		wantSteps(t, x.what+", but no steps", x.collision, 0, x.c, impl.OK)
		wantRain(t, x.what, x.collision, 19, 0, impl.ErrState)
	}
	// No droplets of the lesser class: the product is 0 before the other number is taken.
	x := collision{impl.Sizes{19: 1e20}, with(impl.Kernel{}, 0, 19, 1e20), 1}
	wantEvents(t, "no droplets of the lesser class", x, impl.Kernel{}, impl.OK)
	// An infinite sum of finite events: the share is the quotient by it, which is 0.
	x = collision{fullSizes(1e19), flatKernel(1), 1}
	wantEvents(t, "an infinite sum", x, impl.Kernel{}, impl.OK)
	wantLosses(t, "an infinite sum", x, impl.Sizes{}, impl.OK)
	wantCollided(t, "an infinite sum", x, x.c, impl.OK)
}

// Of 0x1p127 droplets of the class 1, 0x1p124 pairs collide at first, and 0x1.2p123 behind this.
func TestCollisionsThatMakeTooMany(t *testing.T) {
	k := with(impl.Kernel{}, 1, 1, 0x1p-129)
	x := collision{impl.Sizes{1: 0x1p127, 2: greatest}, k, 1}
	wantEvents(t, "too many", x, with(impl.Kernel{}, 1, 1, 0x1p124), impl.OK)
	wantLosses(t, "too many", x, impl.Sizes{1: 0x1p125}, impl.OK)
	wantCollided(t, "too many", x, impl.Sizes{}, impl.ErrState)
	wantRain(t, "too many", x, 5, 0, impl.ErrState)
	x.c[2] = greatest - 0x1.8p124
	once := impl.Sizes{1: 0x1.8p126, 2: greatest - 0x1p123}
	wantCollided(t, "one step", x, once, impl.OK)
	wantSteps(t, "one step", x, 1, once, impl.OK)
	for _, steps := range []int64{2, 3, 200} {
		wantSteps(t, "a later step", x, steps, impl.Sizes{}, impl.ErrState)
	}
	much := collision{impl.Sizes{0: greatest, 1: greatest, 2: 1}, impl.Kernel{}, 1}
	wantCollided(t, "much water", much, much.c, impl.OK)
	wantRain(t, "too much water", much, 1, 0, impl.ErrState)
	wantRain(t, "not too much water", much, 2, 0, impl.OK)
	// The water is finite before, but not behind.
	x = collision{impl.Sizes{1: 0x1p126, 2: 0x1.8p125}, with(impl.Kernel{}, 1, 1, 0x1p-126), 1}
	before, code := impl.AtLeast(x.c, 2)
	wantNumber(t, "the water before", before, code, 0x1.8p127, impl.OK)
	wantCollided(t, "much water behind", x, impl.Sizes{2: 0x1.4p126}, impl.OK)
	wantRain(t, "too much water behind", x, 2, 0, impl.ErrState)
}
