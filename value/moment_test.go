package value_test

import (
	"testing"
	"time"

	"dumbwaiter/api"
	"dumbwaiter/value"
)

// moments are numbers of Moments all over the calendar, among them the first and last second of each month.
func moments() []int {
	l := []int{0, 1, 59, 60, 3599, 3600, 86399, 86400, api.MaxMoment - 1, api.MaxMoment}
	for year := 1970; year <= 9999; year++ {
		for month := time.January; month <= time.December; month++ {
			first := int(time.Date(year, month, 1, 0, 0, 0, 0, time.UTC).Unix())
			l = append(l, first, first+45296)
			if first > 0 {
				l = append(l, first-1)
			}
		}
	}
	return l
}

// P1.11
func TestDateUnitTrunc(t *testing.T) {
	for _, n := range moments() {
		c := time.Unix(int64(n), 0).UTC()
		v := moment(n)
		year, month, day, hour, minute, second := c.Year(), int(c.Month()), c.Day(), c.Hour(), c.Minute(), c.Second()
		if got := value.Date(year, month, day, hour, minute, second); got != v {
			t.Fatal(c, got)
		}
		if got := value.Show(v); got != c.Format("@2006-01-02T15:04:05") {
			t.Fatal(c, got)
		}
		for unit, want := range map[int]int{api.Second: second, api.Minute: minute, api.Hour: hour, api.Day: day, api.Month: month, api.Year: year} {
			if got := value.Unit(v, unit); got != integer(want) {
				t.Fatal(c, unit, got)
			}
		}
		for unit, want := range map[int]time.Time{
			api.Second: c,
			api.Minute: time.Date(year, c.Month(), day, hour, minute, 0, 0, time.UTC),
			api.Hour:   time.Date(year, c.Month(), day, hour, 0, 0, 0, time.UTC),
			api.Day:    time.Date(year, c.Month(), day, 0, 0, 0, 0, time.UTC),
			api.Month:  time.Date(year, c.Month(), 1, 0, 0, 0, 0, time.UTC),
			api.Year:   time.Date(year, 1, 1, 0, 0, 0, 0, time.UTC),
		} {
			if got := value.Trunc(v, unit); got != moment(int(want.Unix())) {
				t.Fatal(c, unit, got)
			}
		}
	}
}

// P1.11
func TestDateErrors(t *testing.T) {
	const most, least = 1<<63 - 1, -1 << 63
	for _, d := range [][6]int{
		{2026, 0, 1, 0, 0, 0}, {2026, 13, 1, 0, 0, 0}, {2026, least, 1, 0, 0, 0}, {2026, most, 1, 0, 0, 0},
		{2026, 1, 0, 0, 0, 0}, {2026, 1, 32, 0, 0, 0}, {2026, 4, 31, 0, 0, 0}, {2026, 6, 31, 0, 0, 0}, {2026, 9, 31, 0, 0, 0}, {2026, 11, 31, 0, 0, 0}, {2026, 2, 29, 0, 0, 0}, {2024, 2, 30, 0, 0, 0}, {2100, 2, 29, 0, 0, 0}, {2026, 1, most, 0, 0, 0}, {2026, 1, least, 0, 0, 0},
		{2026, 1, 1, -1, 0, 0}, {2026, 1, 1, 24, 0, 0}, {2026, 1, 1, most, 0, 0}, {2026, 1, 1, 0, -1, 0}, {2026, 1, 1, 0, 60, 0}, {2026, 1, 1, 0, least, 0}, {2026, 1, 1, 0, 0, -1}, {2026, 1, 1, 0, 0, 60}, {2026, 1, 1, 0, 0, most},
		{1969, 12, 31, 23, 59, 59}, {10000, 1, 1, 0, 0, 0}, {0, 1, 1, 0, 0, 0}, {-2026, 1, 1, 0, 0, 0}, {most, 1, 1, 0, 0, 0}, {least, 1, 1, 0, 0, 0},
	} {
		if got := value.Date(d[0], d[1], d[2], d[3], d[4], d[5]); got != null {
			t.Error(d, got)
		}
	}
	for _, year := range []int{1972, 2000, 2024, 2400, 9996} {
		if value.Date(year, 2, 29, 0, 0, 0) == null {
			t.Error(year)
		}
	}
}

// P1.11
func TestMonths(t *testing.T) {
	january := value.Date(2024, 1, 31, 1, 2, 3)
	for _, x := range []struct {
		n    int
		want api.Value
	}{
		{0, january},
		{1, value.Date(2024, 2, 29, 1, 2, 3)}, {2, value.Date(2024, 3, 31, 1, 2, 3)}, {3, value.Date(2024, 4, 30, 1, 2, 3)}, {11, value.Date(2024, 12, 31, 1, 2, 3)}, {12, value.Date(2025, 1, 31, 1, 2, 3)}, {13, value.Date(2025, 2, 28, 1, 2, 3)},
		{-1, value.Date(2023, 12, 31, 1, 2, 3)}, {-2, value.Date(2023, 11, 30, 1, 2, 3)}, {-11, value.Date(2023, 2, 28, 1, 2, 3)}, {-12, value.Date(2023, 1, 31, 1, 2, 3)}, {-13, value.Date(2022, 12, 31, 1, 2, 3)},
		{913, value.Date(2100, 2, 28, 1, 2, 3)}, {-648, value.Date(1970, 1, 31, 1, 2, 3)}, {-649, null}, {95711, value.Date(9999, 12, 31, 1, 2, 3)}, {95712, null},
		{api.MaxInt, null}, {-api.MaxInt, null},
	} {
		if got := value.Months(january, integer(x.n)); got != x.want {
			t.Error(x, got)
		}
	}
	if got := value.Months(value.Date(2023, 2, 28, 0, 0, 0), integer(1)); got != value.Date(2023, 3, 28, 0, 0, 0) {
		t.Error(got)
	}
}

// P1.11: other kinds and other units give null.
func TestMomentsOfOtherKinds(t *testing.T) {
	for _, v := range all() {
		if isRight(v) && v.Kind == api.Moment {
			for _, unit := range []int{0, -1, 7, 1<<63 - 1, -1 << 63} {
				if value.Unit(v, unit) != null || value.Trunc(v, unit) != null {
					t.Error(v, unit)
				}
			}
			continue
		}
		for unit := 0; unit <= 7; unit++ {
			if value.Unit(v, unit) != null || value.Trunc(v, unit) != null {
				t.Error(v, unit)
			}
		}
		if value.Months(v, integer(0)) != null {
			t.Error(v)
		}
		if v.Kind != api.Int || !isRight(v) {
			if value.Months(moment(0), v) != null {
				t.Error(v)
			}
		}
	}
	if value.Months(moment(0), moment(0)) != null {
		t.Error("months of moments")
	}
}
