"""Ways, borders and sums of a scheme of contacts; the calls are answered by contactways.cabinet."""
