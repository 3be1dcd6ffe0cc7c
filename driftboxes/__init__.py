"""Where something that drifts may be: driftboxes.drift.answers tells it."""
